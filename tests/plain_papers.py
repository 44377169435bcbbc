"""As plain, for the stages 12 to 15: records, inner cuts, chains and papers. Nothing here is taken from the package."""

from tests import plain


def inner_places(machine, cut, word):
    return [place for place in plain.cuttings(machine, cut, word) if place not in (0, len(word))]


def is_failing_inner(machine, cut, word):
    return plain.takes(machine, word) and not inner_places(machine, cut, word)


def short_failing_inner(machine, cut):
    """All short words that the machine takes and that can't be cut strictly inside."""
    return [word for word, turn in plain.short_turns(machine).items() if turn[0] in machine[2] and not any(
        0 < place < len(word) for place in plain.short_cuttings(machine, cut, word))]


def failing_inner(machine, cut, most):
    """The least such word of all, or None; TooGreat if more than so many states would be looked at."""
    def step(told, letter):
        begun, standing, sets = told
        sets = set(sets)
        if begun and standing in cut:
            sets.add(frozenset(cut))
        return True, plain.led(machine, standing, letter), plain.all_led(machine, sets, letter)
    ends = frozenset(machine[2])
    return plain.least(word for told, word in plain.walked(machine[0], (False, 0, frozenset()), step, most).items()
                       if told[1] in ends and not any(part <= ends for part in told[2]))


def takes_some(machine):
    reached = plain.walked(machine[0], 0, lambda standing, letter: plain.led(machine, standing, letter))
    return any(standing in machine[2] for standing in reached)


def is_no_inner(machine, value):
    wanted = plain.cuts(machine) if takes_some(machine) else []
    return type(value) is list and len(value) == len(wanted) and all(
        type(row) is tuple and len(row) == 2 and plain.is_cut(machine, row[0]) and row[0] == cut
        and plain.is_word(machine, row[1]) and is_failing_inner(machine, cut, row[1])
        for cut, row in zip(wanted, value))


def is_chain(machine, value):
    return type(value) is tuple and len(value) in (1, 2, 3, 4) and all(plain.is_cut(machine, cut) for cut in value)


def lot_tests(machine, chain):
    """For each lot of the chain, what tells whether a word is one of it; goals are the standings behind it."""
    goals = chain[1:] + (machine[2],)
    behind = [lambda word, cut=cut, goal=goal: all(plain.led(machine, standing, word) in goal for standing in cut)
              for cut, goal in zip(chain, goals)]
    return [lambda word: plain.led(machine, 0, word) in chain[0]] + behind


def is_made(machine, chain, word):
    """True if the word consists of a word of each lot, in their order."""
    places = {0}
    for holds in lot_tests(machine, chain):
        places = {end for begin in places for end in range(begin, len(word) + 1) if holds(word[begin:end])}
    return len(word) in places


def failing_chain(machine, chain, most):
    """The least word that is taken and not made, or None; TooGreat if there are too many states."""
    goals = [set(cut) for cut in chain[1:]] + [set(machine[2])]

    def state(standing, lots):
        is_ready = standing in chain[0]
        told = []
        for cut, lot, goal in zip(chain, lots, goals):
            lot = frozenset(lot | {frozenset(cut)}) if is_ready else lot
            is_ready = any(part <= goal for part in lot)
            told.append(lot)
        return standing, tuple(told)

    def step(told, letter):
        return state(plain.led(machine, told[0], letter), [plain.all_led(machine, lot, letter) for lot in told[1]])
    found = plain.walked(machine[0], state(0, [frozenset()] * len(chain)), step, most)
    return plain.least(word for told, word in found.items()
                       if told[0] in machine[2] and not any(part <= goals[-1] for part in told[1][-1]))


def row_of(machine, cut, word):
    """The row of a word, as the point tells it."""
    sets = {tuple(sorted({plain.led(machine, standing, word[place:]) for standing in cut}))
            for place in range(len(word) + 1) if plain.led(machine, 0, word[:place]) in cut}
    return plain.led(machine, 0, word), least_sets(sets)


def least_sets(sets):
    return tuple(sorted(part for part in sets if not any(set(other) < set(part) for other in sets)))


def rows(machine, cut, most):
    """All rows of words; TooGreat if there are more than so many."""
    told = {row_of(machine, cut, ""): ""}
    todo = [""]
    while todo:
        word = todo.pop(0)
        for letter in "abc"[:machine[0]]:
            row = row_of(machine, cut, word + letter)
            if row not in told:
                told[row] = word + letter
                todo.append(word + letter)
        if len(told) > most:
            raise plain.TooGreat
    return sorted(told)


def is_bad(machine, row):
    return row[0] in machine[2] and not any(set(part) <= set(machine[2]) for part in row[1])


def next_row(machine, cut, row, letter):
    standing = plain.led(machine, row[0], letter)
    sets = {tuple(sorted({plain.led(machine, own, letter) for own in part})) for part in row[1]}
    return standing, least_sets(sets | ({cut} if standing in cut else set()))


def is_row(machine, value):
    if type(value) is not tuple or len(value) != 2 or type(value[0]) is not int or type(value[1]) is not tuple:
        return False
    if value[0] not in range(len(machine[1])) or not all(plain.is_cut(machine, part) for part in value[1]):
        return False
    return value[1] == least_sets(set(value[1]))


def is_split_paper(machine, cut, value):
    if type(value) is not list or not all(is_row(machine, row) and not is_bad(machine, row) for row in value):
        return False
    told = set(value)
    return row_of(machine, cut, "") in told and all(
        next_row(machine, cut, row, letter) in told for row in told for letter in "abc"[:machine[0]])


def longer(letters, start, step):
    """All states to which words that are not empty lead from the start."""
    return {step(state, letter) for state in plain.walked(letters, start, step) for letter in "abc"[:letters]}


def standings_behind(machine):
    return longer(machine[0], 0, lambda standing, letter: plain.led(machine, standing, letter))


def sets_behind(machine, cut):
    return longer(machine[0], cut, lambda part, letter: tuple(sorted({
        plain.led(machine, standing, letter) for standing in part})))


def idle_paper(machine, cut):
    standings, sets = standings_behind(machine), sets_behind(machine, cut)
    if not standings & set(cut):
        return "first", tuple(sorted(standings))
    if not any(set(part) <= set(machine[2]) for part in sets):
        return "second", tuple(sorted(sets))
    return None


def is_idle_paper(machine, cut, value):
    if type(value) is not tuple or len(value) != 2 or type(value[0]) is not str or type(value[1]) is not tuple:
        return False
    own_letters, told = "abc"[:machine[0]], value[1]
    if value[0] == "first":
        return (plain.is_cut(machine, told) and not set(told) & set(cut)
                and all(plain.led(machine, standing, letter) in told for standing in (0,) + told
                        for letter in own_letters))
    return (value[0] == "second" and all(plain.is_cut(machine, part) for part in told)
            and not any(set(part) <= set(machine[2]) for part in told)
            and all(tuple(sorted({plain.led(machine, standing, letter) for standing in part})) in told
                    for part in (cut,) + told for letter in own_letters))


def live_words(machine, cut):
    """The least words of both lots that are not empty, or None: each state is led on by one letter more."""
    def least(start, step, holds):
        told = plain.walked(machine[0], start, step)
        return plain.least(word + letter for state, word in told.items() for letter in "abc"[:machine[0]]
                           if holds(step(state, letter)))
    one = least(0, lambda standing, letter: plain.led(machine, standing, letter), lambda standing: standing in cut)
    other = least(cut, lambda part, letter: tuple(sorted({plain.led(machine, own, letter) for own in part})),
                  lambda part: set(part) <= set(machine[2]))
    return None if one is None or other is None else (one, other)


# More states than these are not looked at to judge a record.
MOST = 3000
FORMS = {"same": 3, "parts": 4, "splits": 3, "fails": 4, "twice": 4, "none": 3, "factor": 3, "open": 4}


def judge(record):
    """What the judge returns, or None where no record is due; TooGreat if there are too many states."""
    if type(record) is not tuple or not record or type(record[0]) is not str or FORMS.get(record[0]) != len(record):
        return None
    for number, holds in enumerate(conditions(*record)):
        if not holds():
            return "wrong", number
    return ("right",)


def conditions(form, machine, *rest):
    def few(value):
        return plain.is_machine(value) and len(value[1]) <= 5

    def alike(one, other):
        return plain.is_machine(one) and plain.is_machine(other) and one[0] == other[0]

    def is_word(word):
        return plain.is_word(machine, word)
    if form == "same":
        return [lambda: alike(machine, rest[0]), lambda: plain.parting_word(machine, rest[0]) is None]
    if form == "parts":
        return [lambda: alike(machine, rest[0]), lambda: is_word(rest[1]),
                lambda: plain.takes(machine, rest[1]) != plain.takes(rest[0], rest[1])]
    if form == "splits":
        return [lambda: few(machine), lambda: plain.is_cut(machine, rest[0]) and not plain.is_idle(machine, rest[0]),
                lambda: plain.failing_word(machine, rest[0], MOST) is None]
    if form == "none":
        return [lambda: few(machine), lambda: plain.is_no_product(machine, rest[0])]
    if form == "factor":
        return [lambda: few(machine) and alike(machine, rest[0]), lambda: takes_some(rest[0]),
                lambda: plain.lacking_word(machine, rest[0], MOST) is None]
    if form == "open":
        return [lambda: plain.is_machine(machine), lambda: is_word(rest[0]) and plain.takes(machine, rest[0]),
                lambda: is_word(rest[1]) and plain.takes(machine, rest[1]),
                lambda: not plain.takes(machine, rest[0] + rest[1])]
    places = {"fails": lambda many: many == 0, "twice": lambda many: many >= 2}[form]
    return [lambda: few(machine), lambda: plain.is_cut(machine, rest[0]), lambda: is_word(rest[1]),
            lambda: plain.takes(machine, rest[1]) and places(len(plain.cuttings(machine, rest[0], rest[1])))]
