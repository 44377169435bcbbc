"""What the tests hold answers against: plain searches by the words of the document, and machines to ask about.

Nothing here is taken from the package, so that a fault of the package is not repeated here.
"""

import itertools
import random


def words(letters, longest):
    """All words of so many letters and of at most that length, the less ones first."""
    return ["".join(word) for many in range(longest + 1) for word in itertools.product("abc"[:letters], repeat=many)]


def led(machine, standing, word):
    for letter in word:
        standing = machine[1][standing]["abc".index(letter)]
    return standing


def takes(machine, word):
    return led(machine, 0, word) in machine[2]


def is_machine(value):
    if type(value) is not tuple or len(value) != 3:
        return False
    letters, moves, ends = value
    if type(letters) is not int or letters not in (1, 2, 3):
        return False
    if type(moves) is not tuple or len(moves) not in range(1, 33):
        return False
    for row in moves:
        if type(row) is not tuple or len(row) != letters or not are_standings(row, len(moves)):
            return False
    return type(ends) is tuple and are_standings(ends, len(moves)) and list(ends) == sorted(set(ends))


def are_standings(value, many):
    return all(type(standing) is int and standing in range(many) for standing in value)


def is_cut(machine, value):
    if type(value) is not tuple or not value or not are_standings(value, len(machine[1])):
        return False
    return list(value) == sorted(set(value))


def less(one, other):
    return (len(one), one) < (len(other), other)


def walked(letters, start, step):
    """A dict of all states to which words lead from the start, each with its least word; step takes a letter."""
    told = {start: ""}
    rim = [start]
    while rim:
        found = {}
        for state in rim:
            for letter in "abc"[:letters]:
                to = step(state, letter)
                word = told[state] + letter
                if to not in told and (to not in found or less(word, found[to])):
                    found[to] = word
        told.update(found)
        rim = sorted(found, key=lambda state: found[state])
    return told


def parting_word(one, other):
    pairs = walked(one[0], (0, 0), lambda pair, letter: (led(one, pair[0], letter), led(other, pair[1], letter)))
    parted = [word for pair, word in pairs.items() if (pair[0] in one[2]) != (pair[1] in other[2])]
    return min(parted, key=lambda word: (len(word), word), default=None)


def is_smallest(machine):
    """True if all standings are reached, in the order of their least words, and no two of them can be one."""
    letters, moves, ends = machine
    reached = walked(letters, 0, lambda standing, letter: led(machine, standing, letter))
    in_order = sorted(reached, key=lambda standing: (len(reached[standing]), reached[standing]))
    return in_order == list(range(len(moves))) and len(told_apart(machine)) == len(moves) * (len(moves) - 1)


def told_apart(machine):
    """The set of all pairs of standings from which not the same words lead to ends."""
    letters, moves, ends = machine
    pairs = list(itertools.permutations(range(len(moves)), 2))
    apart = {(one, other) for one, other in pairs if (one in ends) != (other in ends)}
    while True:
        more = {pair for pair in pairs if any(
            (moves[pair[0]][number], moves[pair[1]][number]) in apart for number in range(letters))}
        if more <= apart:
            return apart
        apart |= more


def cuts(machine):
    standings = range(len(machine[1]))
    return sorted(cut for many in range(1, len(standings) + 1) for cut in itertools.combinations(standings, many))


def in_first(machine, cut, word):
    return led(machine, 0, word) in cut


def in_second(machine, cut, word):
    return all(led(machine, standing, word) in machine[2] for standing in cut)


def cuttings(machine, cut, word):
    if not takes(machine, word):
        return []
    return [place for place in range(len(word) + 1)
            if in_first(machine, cut, word[:place]) and in_second(machine, cut, word[place:])]


def second_runs(machine, cut):
    """All tuples to which words lead from the standings of the cut, one by one, and to which longer words lead."""
    def step(run, letter):
        return tuple(led(machine, standing, letter) for standing in run)
    runs = walked(machine[0], cut, step)
    return list(runs), {step(run, letter) for run in runs for letter in "abc"[:machine[0]]}


def is_idle(machine, cut):
    own_letters = "abc"[:machine[0]]
    reached = walked(machine[0], 0, lambda standing, letter: led(machine, standing, letter))
    behind = {led(machine, standing, letter) for standing in reached for letter in own_letters}
    longer = second_runs(machine, cut)[1]
    return not any(standing in cut for standing in behind) or not any(set(run) <= set(machine[2]) for run in longer)


def failing_word(machine, cut, most):
    """The least failing word, or None; LookupError if more than so many states would be looked at."""
    def step(state, letter):
        standing = led(machine, state[0], letter)
        sets = {frozenset(led(machine, one, letter) for one in part) for part in state[1]}
        if standing in cut:
            sets.add(frozenset(cut))
        seen.add((standing, frozenset(sets)))
        if len(seen) > most:
            raise LookupError
        return standing, frozenset(sets)
    seen = set()
    start = (0, frozenset([frozenset(cut)] if 0 in cut else []))
    ends = frozenset(machine[2])
    failing = [word for state, word in walked(machine[0], start, step).items()
               if state[0] in ends and not any(part <= ends for part in state[1])]
    return min(failing, key=lambda word: (len(word), word), default=None)


def some_machine(rng, letters, many):
    moves = tuple(tuple(rng.randrange(many) for _ in range(letters)) for _ in range(many))
    return letters, moves, tuple(sorted(rng.sample(range(many), rng.randrange(many + 1))))


def doubled(rng, machine):
    """The same words, with a standing more: one that stands beside another one and takes over some of its moves."""
    letters, moves, ends = machine
    twin, own = rng.randrange(len(moves)), len(moves)
    rows = [[own if to == twin and rng.randrange(2) else to for to in row] for row in moves + (moves[twin],)]
    return letters, tuple(map(tuple, rows)), ends + ((own,) if twin in ends else ())


def with_unreached(rng, machine):
    """The same words, with a standing more that is never reached."""
    letters, moves, ends = machine
    row = tuple(rng.randrange(len(moves) + 1) for _ in range(letters))
    return letters, moves + (row,), ends + ((len(moves),) if rng.randrange(2) else ())


def renumbered(rng, machine):
    """The same words, with all standings but 0 numbered otherwise."""
    letters, moves, ends = machine
    others = list(range(1, len(moves)))
    rng.shuffle(others)
    numbers = [0] + others
    rows = [moves[numbers.index(standing)] for standing in range(len(moves))]
    rows = tuple(tuple(numbers[to] for to in row) for row in rows)
    return letters, rows, tuple(sorted(numbers[end] for end in ends))


def with_other_end(machine, standing):
    """The machine with that standing an end exactly if it was none."""
    return machine[0], machine[1], tuple(sorted(set(machine[2]) ^ {standing}))


def all_machines(letters, many):
    rows = list(itertools.product(range(many), repeat=letters))
    for moves in itertools.product(rows, repeat=many):
        for told in range(many + 1):
            for ends in itertools.combinations(range(many), told):
                yield letters, moves, ends


def cut_machines():
    """Machines of one to five standings: all of the small ones, and some others."""
    rng = random.Random(5)
    chosen = [machine for letters, most in ((1, 3), (2, 2), (3, 1)) for many in range(1, most + 1)
              for machine in all_machines(letters, many)]
    for letters, many, times in ((1, 4, 25), (1, 5, 25), (2, 3, 50), (2, 4, 40), (2, 5, 20), (3, 2, 30), (3, 3, 20),
                                 (3, 4, 12), (3, 5, 10)):
        chosen += [some_machine(rng, letters, many) for _ in range(times)]
    return chosen + TOLD_MACHINES


TOLD_MACHINES = [
    # All words with an a in them.
    (2, ((1, 0), (1, 1)), (1,)),
    # All words of an even number of letters.
    (1, ((1,), (0,)), (0,)),
    # Just one word, of three letters.
    (1, ((1,), (2,), (3,), (4,), (4,)), (3,)),
    # One cycle of five standings, with ends that tell all of them apart.
    (1, ((1,), (2,), (3,), (4,), (0,)), (0, 2, 3)),
    # All turnings and mergings of five standings.
    (3, ((1, 1, 0), (2, 0, 1), (3, 2, 2), (4, 3, 3), (0, 4, 3)), (0, 1, 4)),
    # The document's own examples.
    (2, ((0, 1), (1, 1)), (1,)),
    (1, ((1,), (2,), (2,)), (1,)),
    (1, ((1,), (2,), (3,), (3,)), (1, 2)),
]


def nested(deep, kind=tuple):
    value = kind()
    for _ in range(deep):
        value = kind([value])
    return value


def any_values():
    """Values of many kinds, none of them a machine, or a cut or a word of any machine with two letters."""
    return [
        None, True, False, -1, 0, 1, 2, 3, 10 ** 5000, (), [], [[]], ((),), "A", "d", "ab ", "aB", "0", "\u00e4", "a\n",
        "a" * 299999 + "c", nested(29), nested(29, list), (nested(28, list), nested(28)), (None,) * 299999,
        [0] * 299999, tuple(range(100000)), (True,), (False,), (False, True), (None,), ("0",), ("a",), ["a"], [0],
        [0, 1], (1, 0), (0, 0), (-1,), (-1, 0), (99,), (0, 99), (0, None), (0, "1"), (0, (1,)), ((0,),),
        ("machine",), (1, 2, 3), (1, (), ()), (2, [[0, 0]], ()), [2, ((0, 0),), ()], (2, ((0, 0),), []),
        (True, ((0,),), ()), (2, ((False, False),), ()), (2, ((0, 0),), (False,)), (2, ((0, 0),)),
    ]


def changed(rng, value):
    """The value with one thing in it changed."""
    place = rng.choice(places(value))
    return put(value, place, rng.choice(near(rng, part_at(value, place))))


def places(value):
    found = [()]
    if isinstance(value, (tuple, list)):
        found += [(at,) + rest for at, part in enumerate(value) for rest in places(part)]
    return found


def part_at(value, place):
    for at in place:
        value = value[at]
    return value


def put(value, place, part):
    if not place:
        return part
    at = place[0]
    return type(value)(list(value[:at]) + [put(value[at], place[1:], part)] + list(value[at + 1:]))


def near(rng, part):
    """Values that are near to the part."""
    if isinstance(part, (tuple, list)):
        at = rng.randrange(len(part) + 1)
        as_list = list(part)
        return [as_list, tuple(as_list), tuple(as_list[::-1]), tuple(as_list[:at] + as_list[at + 1:]), None, (part,),
                tuple(as_list[:at] + as_list[at:at + 1] + as_list[at:]), tuple(as_list[:at] + [0] + as_list[at:]), "",
                tuple(sorted(as_list, key=repr)), (), tuple(as_list + [len(as_list)]), tuple(as_list * 2)]
    if isinstance(part, int):
        return [int(part) + 1, int(part) - 1, bool(part), True, False, None, str(part), (part,), [part], -1, 0, 1, 2,
                33, 10 ** 30]
    return [None, 0, (), "", [part], str(part) + "a"]
