"""What the tests hold answers against: plain searches by the words of the document, and machines to ask about.

Nothing here is taken from the package, so that a fault of the package is not repeated here.
"""

import functools
import itertools
import random


class TooGreat(LookupError):
    """More states would have to be looked at than was asked for."""


def words(letters, longest):
    """All words of so many letters and of at most that length, the less ones first."""
    return ["".join(word) for many in range(longest + 1) for word in itertools.product("abc"[:letters], repeat=many)]


def led(machine, standing, word):
    for letter in word:
        standing = machine[1][standing]["abc".index(letter)]
    return standing


def takes(machine, word):
    return led(machine, 0, word) in machine[2]


def is_machine(value):
    if type(value) is not tuple or len(value) != 3:
        return False
    letters, moves, ends = value
    if type(letters) is not int or letters not in (1, 2, 3):
        return False
    if type(moves) is not tuple or len(moves) not in range(1, 33):
        return False
    for row in moves:
        if type(row) is not tuple or len(row) != letters or not are_standings(row, len(moves)):
            return False
    return type(ends) is tuple and are_standings(ends, len(moves)) and list(ends) == sorted(set(ends))


def are_standings(value, many):
    return all(type(standing) is int and standing in range(many) for standing in value)


def is_cut(machine, value):
    if type(value) is not tuple or not value or not are_standings(value, len(machine[1])):
        return False
    return list(value) == sorted(set(value))


def less(one, other):
    return (len(one), one) < (len(other), other)


def least(some_words):
    return min(some_words, key=lambda word: (len(word), word), default=None)


def walked(letters, start, step, most=None):
    """A dict of all states to which words lead from the start, each with its least word; step takes a letter.

    TooGreat if there are more than so many states.
    """
    told = {start: ""}
    rim = [start]
    while rim:
        found = {}
        for state in rim:
            for letter in "abc"[:letters]:
                to = step(state, letter)
                word = told[state] + letter
                if to not in told and (to not in found or less(word, found[to])):
                    found[to] = word
        told.update(found)
        if most is not None and len(told) > most:
            raise TooGreat
        rim = sorted(found, key=lambda state: found[state])
    return told


def pairs(one, other, start=(0, 0)):
    """All pairs of standings to which a word leads in the two machines, each with its least word."""
    return walked(one[0], start, lambda pair, letter: (led(one, pair[0], letter), led(other, pair[1], letter)))


def parting_word(one, other):
    return least(word for pair, word in pairs(one, other).items() if (pair[0] in one[2]) != (pair[1] in other[2]))


def is_smallest(machine):
    """True if all standings are reached, in the order of their least words, and no two of them can be one."""
    letters, moves, ends = machine
    reached = walked(letters, 0, lambda standing, letter: led(machine, standing, letter))
    in_order = sorted(reached, key=lambda standing: (len(reached[standing]), reached[standing]))
    return in_order == list(range(len(moves))) and len(told_apart(machine)) == len(moves) * (len(moves) - 1)


def told_apart(machine):
    """The set of all pairs of standings from which not the same words lead to ends."""
    letters, moves, ends = machine
    pairs = list(itertools.permutations(range(len(moves)), 2))
    apart = {(one, other) for one, other in pairs if (one in ends) != (other in ends)}
    while True:
        more = {pair for pair in pairs if any(
            (moves[pair[0]][number], moves[pair[1]][number]) in apart for number in range(letters))}
        if more <= apart:
            return apart
        apart |= more


def cuts(machine):
    standings = range(len(machine[1]))
    return sorted(cut for many in range(1, len(standings) + 1) for cut in itertools.combinations(standings, many))


def in_first(machine, cut, word):
    return led(machine, 0, word) in cut


def in_second(machine, cut, word):
    return all(led(machine, standing, word) in machine[2] for standing in cut)


def cuttings(machine, cut, word):
    if not takes(machine, word):
        return []
    return [place for place in range(len(word) + 1)
            if in_first(machine, cut, word[:place]) and in_second(machine, cut, word[place:])]


def second_runs(machine, cut):
    """All tuples to which words lead from the standings of the cut, one by one, and to which longer words lead."""
    def step(run, letter):
        return tuple(led(machine, standing, letter) for standing in run)
    runs = walked(machine[0], cut, step)
    return list(runs), {step(run, letter) for run in runs for letter in "abc"[:machine[0]]}


def is_idle(machine, cut):
    own_letters = "abc"[:machine[0]]
    reached = walked(machine[0], 0, lambda standing, letter: led(machine, standing, letter))
    behind = {led(machine, standing, letter) for standing in reached for letter in own_letters}
    longer = second_runs(machine, cut)[1]
    return not any(standing in cut for standing in behind) or not any(set(run) <= set(machine[2]) for run in longer)


def failing_word(machine, cut, most):
    """The least failing word, or None; TooGreat if more than so many states would be looked at."""
    def state(standing, sets):
        return standing, sets | ({frozenset(cut)} if standing in cut else set())

    def step(told, letter):
        return state(led(machine, told[0], letter), all_led(machine, told[1], letter))
    ends = frozenset(machine[2])
    return least(word for told, word in walked(machine[0], state(0, frozenset()), step, most).items()
                 if told[0] in ends and not any(part <= ends for part in told[1]))


def all_led(machine, sets, letter):
    return frozenset(frozenset(led(machine, standing, letter) for standing in part) for part in sets)


@functools.lru_cache(maxsize=None)
def turns(machine):
    """All tuples of the standings to which a word leads from all standings, one by one, each with its least word."""
    return walked(machine[0], tuple(range(len(machine[1]))),
                  lambda turn, letter: tuple(led(machine, standing, letter) for standing in turn))


@functools.lru_cache(maxsize=None)
def short_turns(machine):
    """For each short word, the less ones first, the tuple of the standings to which it leads from all standings."""
    short = words(machine[0], {1: 9, 2: 5, 3: 3}[machine[0]])
    return {word: tuple(led(machine, standing, word) for standing in range(len(machine[1]))) for word in short}


def short_words(machine):
    return list(short_turns(machine))


def short_cuttings(machine, cut, word):
    """As cuttings, for a short word."""
    told = short_turns(machine)
    ends = machine[2]
    if told[word][0] not in ends:
        return []
    return [place for place in range(len(word) + 1) if told[word[:place]][0] in cut
            and all(told[word[place:]][standing] in ends for standing in cut)]


def short_failing_words(machine, cut):
    return [word for word, turn in short_turns(machine).items()
            if turn[0] in machine[2] and not short_cuttings(machine, cut, word)]


@functools.lru_cache(maxsize=None)
def cuts_not_idle(machine):
    return tuple(cut for cut in cuts(machine) if not is_idle(machine, cut))


def is_no_product(machine, value):
    wanted = cuts_not_idle(machine)
    return type(value) is list and len(value) == len(wanted) and all(
        type(row) is tuple and len(row) == 2 and is_cut(machine, row[0]) and row[0] == cut
        and is_word(machine, row[1]) and takes(machine, row[1]) and not cuttings(machine, cut, row[1])
        for cut, row in zip(wanted, value))


def is_word(machine, value):
    return type(value) is str and set(value) <= set("abc"[:machine[0]])


def widened(machine, cut):
    ends = machine[2]
    behind = [turn for turn in turns(machine) if all(turn[standing] in ends for standing in cut)]
    return tuple(standing for standing in range(len(machine[1])) if all(turn[standing] in ends for turn in behind))


def double_word(machine, cut, most):
    """The least double word, or None; TooGreat if more than so many states would be looked at."""
    def state(standing, many):
        many = dict(many)
        if standing in cut:
            many[cut] = min(2, many.get(cut, 0) + 1)
        return standing, frozenset(many.items())

    def step(told, letter):
        many = {}
        for part, times in told[1]:
            to = tuple(sorted({led(machine, standing, letter) for standing in part}))
            many[to] = min(2, many.get(to, 0) + times)
        return state(led(machine, told[0], letter), many)
    return least(word for told, word in walked(machine[0], state(0, {}), step, most).items()
                 if sum(times for part, times in told[1] if set(part) <= set(machine[2])) >= 2)


def reached_by(machine, first):
    return tuple(sorted({standing for standing, own in pairs(machine, first) if own in first[2]}))


def ahead_of(machine, second):
    """The standings from which all words of the second machine lead to ends."""
    return [standing for standing in range(len(machine[1])) if all(
        to in machine[2] for to, own in pairs(machine, second, (standing, 0)) if own in second[2])]


def lacking_word(machine, first, most):
    """The least lacking word, or None; TooGreat if more than so many states would be looked at."""
    reached = frozenset(reached_by(machine, first))

    def state(standing, own, sets):
        return standing, own, sets | ({reached} if own in first[2] else set())

    def step(told, letter):
        standing, own, sets = told
        return state(led(machine, standing, letter), led(first, own, letter), all_led(machine, sets, letter))
    ends = frozenset(machine[2])
    return least(word for told, word in walked(machine[0], state(0, 0, frozenset()), step, most).items()
                 if told[0] in ends and not any(part <= ends for part in told[2]))


def in_middle(machine, cut, later, word):
    return all(led(machine, standing, word) in later for standing in cut)


def short_failing_threes(machine, cut, later):
    """All short words that the machine takes and that are no words of the three lots, one behind the other."""
    told = short_turns(machine)
    firsts = {word for word, turn in told.items() if turn[0] in cut}
    middles = {word for word, turn in told.items() if all(turn[standing] in later for standing in cut)}
    lasts = {word for word, turn in told.items() if all(turn[standing] in machine[2] for standing in later)}

    def is_made(word):
        places = range(len(word) + 1)
        return any(word[:one] in firsts and word[one:other] in middles and word[other:] in lasts
                   for one in places for other in places[one:])
    return [word for word, turn in told.items() if turn[0] in machine[2] and not is_made(word)]


def failing_three(machine, cut, later, most):
    """The least failing word of three lots, or None; TooGreat if more than so many states would be looked at."""
    def state(standing, middles, lasts):
        middles = middles | ({frozenset(cut)} if standing in cut else set())
        ready = any(part <= set(later) for part in middles)
        return standing, middles, lasts | ({frozenset(later)} if ready else set())

    def step(told, letter):
        standing, middles, lasts = told
        return state(led(machine, standing, letter), all_led(machine, middles, letter),
                     all_led(machine, lasts, letter))
    ends = frozenset(machine[2])
    return least(word for told, word in walked(machine[0], state(0, frozenset(), frozenset()), step, most).items()
                 if told[0] in ends and not any(part <= ends for part in told[2]))


def is_idle_three(machine, cut, later):
    ends = machine[2]
    longer = {step for turn in turns(machine) for step in (
        tuple(led(machine, standing, letter) for standing in turn) for letter in "abc"[:machine[0]])}
    return not (any(turn[0] in cut for turn in longer)
                and any(all(turn[standing] in later for standing in cut) for turn in longer)
                and any(all(turn[standing] in ends for standing in later) for turn in longer))


def some_machine(rng, letters, many):
    moves = tuple(tuple(rng.randrange(many) for _ in range(letters)) for _ in range(many))
    return letters, moves, tuple(sorted(rng.sample(range(many), rng.randrange(many + 1))))


def doubled(rng, machine):
    """The same words, with a standing more: one that stands beside another one and takes over some of its moves."""
    letters, moves, ends = machine
    twin, own = rng.randrange(len(moves)), len(moves)
    rows = [[own if to == twin and rng.randrange(2) else to for to in row] for row in moves + (moves[twin],)]
    return letters, tuple(map(tuple, rows)), ends + ((own,) if twin in ends else ())


def with_unreached(rng, machine):
    """The same words, with a standing more that is never reached."""
    letters, moves, ends = machine
    row = tuple(rng.randrange(len(moves) + 1) for _ in range(letters))
    return letters, moves + (row,), ends + ((len(moves),) if rng.randrange(2) else ())


def renumbered(rng, machine):
    """The same words, with all standings but 0 numbered otherwise."""
    letters, moves, ends = machine
    others = list(range(1, len(moves)))
    rng.shuffle(others)
    numbers = [0] + others
    rows = [moves[numbers.index(standing)] for standing in range(len(moves))]
    rows = tuple(tuple(numbers[to] for to in row) for row in rows)
    return letters, rows, tuple(sorted(numbers[end] for end in ends))


def with_other_end(machine, standing):
    """The machine with that standing an end exactly if it was none."""
    return machine[0], machine[1], tuple(sorted(set(machine[2]) ^ {standing}))


def all_machines(letters, many):
    rows = list(itertools.product(range(many), repeat=letters))
    for moves in itertools.product(rows, repeat=many):
        for told in range(many + 1):
            for ends in itertools.combinations(range(many), told):
                yield letters, moves, ends


def cut_machines():
    """Machines of one to five standings: all of the small ones, and some others."""
    rng = random.Random(5)
    chosen = [machine for letters, most in ((1, 3), (2, 2), (3, 1)) for many in range(1, most + 1)
              for machine in all_machines(letters, many)]
    for letters, many, times in ((1, 4, 25), (1, 5, 25), (2, 3, 50), (2, 4, 40), (2, 5, 20), (3, 2, 30), (3, 3, 20),
                                 (3, 4, 12), (3, 5, 10)):
        chosen += [some_machine(rng, letters, many) for _ in range(times)]
    return chosen + TOLD_MACHINES


TOLD_MACHINES = [
    # All words with an a in them.
    (2, ((1, 0), (1, 1)), (1,)),
    # All words of an even number of letters.
    (1, ((1,), (0,)), (0,)),
    # Just one word, of three letters.
    (1, ((1,), (2,), (3,), (4,), (4,)), (3,)),
    # One cycle of five standings, with ends that tell all of them apart.
    (1, ((1,), (2,), (3,), (4,), (0,)), (0, 2, 3)),
    # All turnings and mergings of five standings.
    (3, ((1, 1, 0), (2, 0, 1), (3, 2, 2), (4, 3, 3), (0, 4, 3)), (0, 1, 4)),
    # The document's own examples.
    (2, ((0, 1), (1, 1)), (1,)),
    (1, ((1,), (2,), (2,)), (1,)),
    (1, ((1,), (2,), (3,), (3,)), (1, 2)),
]


WELL_KNOWN = [
    # No word, the empty word alone, all words, all words but the empty one.
    (2, ((0, 0),), ()),
    (2, ((1, 1), (1, 1)), (0,)),
    (3, ((0, 0, 0),), (0,)),
    (2, ((1, 1), (1, 1)), (1,)),
    # Any number of a's with any number of b's behind them, and with a c behind these.
    (2, ((0, 1), (2, 1), (2, 2)), (0, 1)),
    (3, ((0, 1, 2), (3, 1, 2), (3, 3, 3), (3, 3, 3)), (2,)),
    # Any number of ab's; all words with an aba in them; all words that end with ab.
    (2, ((1, 2), (2, 0), (2, 2)), (0,)),
    (2, ((1, 0), (1, 2), (3, 0), (3, 3)), (3,)),
    (2, ((1, 0), (1, 2), (1, 0)), (2,)),
    # An even number of a's and of b's; all words with as many letters as can be divided by five.
    (2, ((1, 2), (0, 3), (3, 0), (2, 1)), (0,)),
    (2, ((1, 1), (2, 2), (3, 3), (4, 4), (0, 0)), (0,)),
    # Just ab and ba; just aa, ab and ba; at most four letters; one, two or four letters; two or three letters.
    (2, ((1, 2), (4, 3), (3, 4), (4, 4), (4, 4)), (3,)),
    (2, ((1, 2), (3, 3), (3, 4), (4, 4), (4, 4)), (3,)),
    (1, ((1,), (2,), (3,), (4,), (4,)), (0, 1, 2, 3)),
    (1, ((1,), (2,), (3,), (2,), (4,)), (1, 2)),
    (2, ((1, 1), (2, 2), (3, 3), (4, 4), (4, 4)), (2, 3)),
    # A standing that is never reached, and one from which no word is taken.
    (2, ((0, 1), (1, 1), (0, 2)), (1, 2)),
    (1, ((1,), (2,), (2,), (1,)), (1, 3)),
]

# Machines that are no products, though some of their cuts are not idle; some with long least failing words.
PRIMES = [
    (1, ((1,), (2,), (3,), (4,), (4,)), (0, 3)),
    (1, ((1,), (2,), (3,), (4,), (4,)), (0, 1, 3)),
    (1, ((2,), (3,), (3,), (1,)), (0, 2, 3)),
    (1, ((4,), (4,), (3,), (2,), (2,)), (0, 1, 2, 4)),
    (1, ((4,), (3,), (1,), (2,), (3,)), (0, 3, 4)),
    (2, ((1, 1), (2, 3), (3, 2), (1, 1)), (0, 1, 2)),
    (2, ((1, 2), (4, 3), (3, 4), (4, 4), (4, 4)), (3,)),
    (2, ((1, 4), (3, 2), (3, 3), (4, 4), (4, 4)), (0, 1, 2, 3)),
    (2, ((2, 1), (3, 4), (3, 4), (4, 3), (4, 4)), (2, 3)),
    (2, ((3, 1), (3, 2), (2, 4), (4, 3), (4, 4)), (0, 1, 2, 3)),
    (2, ((3, 1), (3, 4), (2, 4), (3, 4), (4, 2)), (1, 4)),
    (2, ((4, 1), (3, 2), (2, 4), (1, 3), (4, 2)), (0, 1, 2, 3)),
    (2, ((2, 4), (3, 2), (1, 4), (4, 3), (4, 4)), (0, 1, 2, 3)),
    (2, ((3, 4), (1, 2), (2, 3), (4, 1), (4, 4)), (0, 2, 3)),
    (3, ((4, 3, 1), (4, 2, 2), (3, 3, 3), (4, 4, 4), (4, 4, 4)), (2, 3)),
    (3, ((3, 4, 3), (2, 2, 2), (4, 2, 4), (1, 4, 3), (4, 4, 4)), (0, 1, 2, 3)),
    (3, ((1, 4, 1), (1, 1, 2), (4, 1, 3), (3, 3, 4), (4, 4, 4)), (0, 1, 2, 3)),
]


def one_way(rng, letters, many):
    """A drawn machine of two standings or more, to whose standing 0 no letter leads: few of these are split simply."""
    moves = tuple(tuple(rng.randrange(1, many) for _ in range(letters)) for _ in range(many))
    return letters, moves, tuple(sorted(rng.sample(range(many), rng.randrange(1, many))))


def lot_machines():
    """Machines of one to five standings, well-known and drawn ones."""
    rng = random.Random(41)
    drawn = [draw(rng, letters, many) for letters in (1, 2, 3) for many in (2, 3, 4, 5) for draw in (
        some_machine, one_way) for _ in range(6)]
    small = [machine for letters, most in ((1, 2), (2, 1)) for many in range(1, most + 1)
             for machine in all_machines(letters, many)]
    return small + drawn + TOLD_MACHINES + WELL_KNOWN + PRIMES


def ring(many, ends, letters=1):
    """A machine in which each letter leads to the standing behind, and from the last one to 0."""
    return letters, tuple(((at + 1) % many,) * letters for at in range(many)), tuple(ends)


def row(many, ends, letters=1):
    """A machine in which each letter leads to the standing behind, and from the last one to itself."""
    return letters, tuple((min(at + 1, many - 1),) * letters for at in range(many)), tuple(ends)


def nested(deep, kind=tuple):
    value = kind()
    for _ in range(deep):
        value = kind([value])
    return value


def any_values():
    """Values of many kinds, none of them a machine, or a cut or a word of any machine with two letters."""
    return [
        None, True, False, -1, 0, 1, 2, 3, 10 ** 5000, (), [], [[]], ((),), "A", "d", "ab ", "aB", "0", "\u00e4", "a\n",
        "a" * 299999 + "c", nested(29), nested(29, list), (nested(28, list), nested(28)), (None,) * 299999,
        [0] * 299999, tuple(range(100000)), (True,), (False,), (False, True), (None,), ("0",), ("a",), ["a"], [0],
        [0, 1], (1, 0), (0, 0), (-1,), (-1, 0), (99,), (0, 99), (0, None), (0, "1"), (0, (1,)), ((0,),),
        ("machine",), (1, 2, 3), (1, (), ()), (2, [[0, 0]], ()), [2, ((0, 0),), ()], (2, ((0, 0),), []),
        (True, ((0,),), ()), (2, ((False, False),), ()), (2, ((0, 0),), (False,)), (2, ((0, 0),)),
    ]


def changed(rng, value):
    """The value with one thing in it changed."""
    place = rng.choice(places(value))
    return put(value, place, rng.choice(near(rng, part_at(value, place))))


def places(value):
    found = [()]
    if isinstance(value, (tuple, list)):
        found += [(at,) + rest for at, part in enumerate(value) for rest in places(part)]
    return found


def part_at(value, place):
    for at in place:
        value = value[at]
    return value


def put(value, place, part):
    if not place:
        return part
    at = place[0]
    return type(value)(list(value[:at]) + [put(value[at], place[1:], part)] + list(value[at + 1:]))


def near(rng, part):
    """Values that are near to the part."""
    if isinstance(part, (tuple, list)):
        at = rng.randrange(len(part) + 1)
        as_list = list(part)
        return [as_list, tuple(as_list), tuple(as_list[::-1]), tuple(as_list[:at] + as_list[at + 1:]), None, (part,),
                tuple(as_list[:at] + as_list[at:at + 1] + as_list[at:]), tuple(as_list[:at] + [0] + as_list[at:]), "",
                tuple(sorted(as_list, key=repr)), (), tuple(as_list + [len(as_list)]), tuple(as_list * 2)]
    if isinstance(part, int):
        return [int(part) + 1, int(part) - 1, bool(part), True, False, None, str(part), (part,), [part], -1, 0, 1, 2,
                33, 10 ** 30]
    return [None, 0, (), "", [part], str(part) + "a"]
