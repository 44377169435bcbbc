"""As plain, for the stages 8 to 11: stars, patterns, lengths and the shelf. Nothing here is taken from the package."""

import itertools

from tests import plain


class Refused(Exception):
    """What is due is an error of that name, with what it keeps, if it keeps anything."""

    def __init__(self, name, kept=None):
        Exception.__init__(self, name, kept)
        self.told = (name, kept)


def least_machine(letters, start, step, is_end):
    """The smallest machine of the words that lead from the start to an end; TooGreat if it has over 32 standings.

    Its standings are told apart by all short words first, and by their moves until no more of them are.
    """
    told = plain.walked(letters, start, step)
    states = sorted(told, key=lambda state: (len(told[state]), told[state]))
    own_letters = "abc"[:letters]
    group = {state: is_end(state) for state in states}
    while True:
        mark = {state: (group[state],) + tuple(group[step(state, letter)] for letter in own_letters)
                for state in states}
        numbers = {}
        for state in states:
            numbers.setdefault(mark[state], len(numbers))
        if len(numbers) == len(set(group.values())):
            break
        group = {state: numbers[mark[state]] for state in states}
    first = {}
    for state in states:
        first.setdefault(numbers[mark[state]], state)
    if len(first) > 32:
        raise plain.TooGreat
    moves = tuple(tuple(numbers[mark[step(first[at], letter)]] for letter in own_letters) for at in range(len(first)))
    return letters, moves, tuple(at for at in range(len(first)) if is_end(first[at]))


def short_star(taken, longest):
    """All words of at most that length that consist of taken words."""
    found = {""}
    rim = {""}
    while rim:
        rim = {ahead + word for ahead in rim for word in taken if word and len(ahead + word) <= longest} - found
        found |= rim
    return found


def starred(machine):
    """The star: many words at once, each of them begun at one of the places at which a word can begin."""
    def step(state, letter):
        led = {plain.led(machine, standing, letter) for standing in state if standing != "begin"}
        if "begin" in state:
            led.add(plain.led(machine, 0, letter))
        return frozenset(led | ({"begin"} if led & set(machine[2]) else set()))
    return least_machine(machine[0], frozenset(["begin"]), step, lambda state: "begin" in state)


def is_closed(machine):
    return least_of(machine) == starred(machine)


def least_of(machine):
    return least_machine(machine[0], 0, lambda standing, letter: plain.led(machine, standing, letter),
                         lambda standing: standing in machine[2])


def behind(one, other):
    """The smallest machine of the words of the one with words of the other behind them."""
    def state(standing, others):
        return standing, frozenset(others | ({0} if standing in one[2] else set()))

    def step(told, letter):
        return state(plain.led(one, told[0], letter), {plain.led(other, standing, letter) for standing in told[1]})
    return least_machine(one[0], state(0, set()), step, lambda told: bool(told[1] & set(other[2])))


def both(one, other, holds):
    def step(pair, letter):
        return plain.led(one, pair[0], letter), plain.led(other, pair[1], letter)
    return least_machine(one[0], (0, 0), step, lambda pair: holds(pair[0] in one[2], pair[1] in other[2]))


def joined(way, one, other):
    """What patterns and shelves make of two machines; Refused if that is refused."""
    if way == "then" and len(other[1]) > 6:
        raise Refused("TooMany", 6)
    try:
        if way == "then":
            return behind(one, other)
        return both(one, other, (lambda own, told: own or told) if way == "or" else lambda own, told: own and told)
    except plain.TooGreat:
        raise Refused("TooMany", 32) from None


def turned(way, one):
    if way == "not":
        return least_of((one[0], one[1], tuple(sorted(set(range(len(one[1]))) - set(one[2])))))
    if len(one[1]) > 6:
        raise Refused("TooMany", 6)
    try:
        return starred(one)
    except plain.TooGreat:
        raise Refused("TooMany", 32) from None


def of_word(letters, word):
    return least_machine(letters, "", lambda state, letter: state + letter if word.startswith(state + letter) else "x",
                         lambda state: state == word)


def machine_of(letters, pattern):
    """The smallest machine of a pattern; Refused if one from within is refused."""
    way, *parts = pattern
    if way == "word":
        return of_word(letters, parts[0])
    made = [machine_of(letters, part) for part in parts]
    return turned(way, *made) if len(made) == 1 else joined(way, *made)


def is_pattern(letters, value, deep=8):
    if type(value) is not tuple or not value or type(value[0]) is not str or deep == 0:
        return False
    if value[0] == "word":
        return (len(value) == 2 and type(value[1]) is str and len(value[1]) <= 30
                and set(value[1]) <= set("abc"[:letters]))
    many = {"not": 1, "many": 1, "or": 2, "and": 2, "then": 2}.get(value[0])
    return len(value) - 1 == many and all(is_pattern(letters, part, deep - 1) for part in value[1:])


def pattern_words(letters, pattern, longest):
    """The set of all words of the pattern that are not longer."""
    way, *parts = pattern
    if way == "word":
        return {parts[0]} if len(parts[0]) <= longest else set()
    made = [pattern_words(letters, part, longest) for part in parts]
    if way == "not":
        return set(plain.words(letters, longest)) - made[0]
    if way == "many":
        return short_star(made[0], longest)
    if way == "then":
        return {one + other for one in made[0] for other in made[1] if len(one + other) <= longest}
    return made[0] | made[1] if way == "or" else made[0] & made[1]


def depth(pattern):
    return 1 if pattern[0] == "word" else 1 + max(depth(part) for part in pattern[1:])


def some_pattern(rng, letters, deep, longest=3):
    """A drawn pattern, nested at most so deep, of words that are not longer."""
    if deep == 1 or rng.randrange(5) == 0:
        return "word", "".join(rng.choice("abc"[:letters]) for _ in range(rng.randrange(longest + 1)))
    way = rng.choice(("not", "many", "or", "and", "then", "then", "or", "many"))
    parts = [some_pattern(rng, letters, deep - 1, longest) for _ in range(1 if way in ("not", "many") else 2)]
    return (way,) + tuple(parts)


def is_lengths(value):
    return (type(value) is tuple and 1 <= len(value) <= 8 and all(type(number) is int for number in value)
            and value[0] == 0 and value[-1] <= 40 and list(value) == sorted(set(value)))


def sums(one, other):
    return tuple(sorted({number + added for number in one for added in other}))


def sum_pairs(lengths):
    """All pairs of lengths among the numbers, each tried as the point has it."""
    parts = [(0,) + rest for many in range(1, len(lengths)) for rest in itertools.combinations(lengths[1:], many)]

    def can_grow(one, other):
        return any(set(sums(one + (number,), other)) <= set(lengths) for number in range(41) if number not in one)
    return sorted((one, other) for one in parts for other in parts
                  if sums(one, other) == lengths and not can_grow(one, other) and not can_grow(other, one))


class Account:
    """A plain account of a shelf: each call returns what it tells, or raises Refused."""

    def __init__(self):
        self.stored = {}
        self.marked = []

    def check_free(self, name):
        if type(name) is not str or not 1 <= len(name) <= 8 or set(name) - set("abcdefghijklmnopqrstuvwxyz"):
            raise Refused("NoName", name)
        if name in self.stored:
            raise Refused("NameTaken", name)

    def known(self, name):
        if type(name) is not str or name not in self.stored:
            raise Refused("UnknownName", name)
        return self.stored[name]

    def store(self, name, machine):
        if len(self.stored) == 12:
            raise Refused("TooMany", 12)
        self.stored[name] = machine

    def put(self, name, machine):
        self.check_free(name)
        if not plain.is_machine(machine):
            raise Refused("NoMachine")
        self.store(name, least_of(machine))

    def join(self, name, way, one, other):
        self.check_free(name)
        if type(way) is not str or way not in ("or", "and", "then"):
            raise Refused("NoWay")
        machines = self.known(one), self.known(other)
        if machines[0][0] != machines[1][0]:
            raise Refused("NotAlike")
        self.store(name, joined(way, *machines))

    def turn(self, name, way, one):
        self.check_free(name)
        if type(way) is not str or way not in ("not", "many"):
            raise Refused("NoWay")
        self.store(name, turned(way, self.known(one)))

    def remove(self, name):
        self.known(name)
        del self.stored[name]

    def mark(self):
        if len(self.marked) == 6:
            raise Refused("TooMany", 6)
        self.marked.append(list(self.stored.items()))
        return len(self.marked) - 1

    def back(self, number):
        if type(number) is not int or number not in range(len(self.marked)):
            raise Refused("NoMark", number)
        self.stored = dict(self.marked[number])
        self.marked = self.marked[:number + 1]

    def marks(self):
        return list(range(len(self.marked)))

    def names(self):
        return sorted(self.stored)

    def machine(self, name):
        return self.known(name)

    def equal_names(self):
        groups = [[name for name in self.names() if self.stored[name] == machine]
                  for machine in set(self.stored.values())]
        return sorted(groups)

    def parting(self, one, other):
        machines = self.known(one), self.known(other)
        if machines[0][0] != machines[1][0]:
            raise Refused("NotAlike")
        return plain.parting_word(*machines)

    def split(self, name):
        machine = self.known(name)
        if len(machine[1]) > 5:
            raise Refused("TooMany", 5)
        return next((cut for cut in plain.cuts(machine) if not plain.is_idle(machine, cut)
                     and plain.failing_word(machine, cut, None) is None), None)

    def lacking(self, name, first):
        machine, told = self.known(name), self.known(first)
        if machine[0] != told[0]:
            raise Refused("NotAlike")
        if len(machine[1]) > 5:
            raise Refused("TooMany", 5)
        return plain.lacking_word(machine, told, None)


# Closed machines of one to five standings.
CLOSED = [
    # All words; just the empty one; all words with as many letters as can be divided by two, three or five.
    (1, ((0,),), (0,)),
    (3, ((0, 0, 0),), (0,)),
    (2, ((1, 1), (1, 1)), (0,)),
    (1, ((1,), (0,)), (0,)),
    plain.ring(3, (0,), 2),
    plain.ring(5, (0,)),
    # The empty word, and those that begin with a; that end with b; that have an a in them.
    (2, ((1, 2), (1, 1), (2, 2)), (0, 1)),
    (2, ((1, 2), (1, 2), (1, 2)), (0, 2)),
    (2, ((1, 2), (1, 1), (1, 2)), (0, 1)),
    # Any number of ab's; of a's and bb's; of aa's and ab's; of b's, also with a's ahead of them.
    (2, ((1, 2), (2, 0), (2, 2)), (0,)),
    (2, ((0, 1), (2, 0), (2, 2)), (0,)),
    (2, ((1, 2), (0, 0), (2, 2)), (0,)),
    (2, ((1, 0), (1, 0)), (0,)),
    # Lengths that are sums of 2 and 3, of 3 and 4 and 5, of 2 and 5.
    (1, ((1,), (2,), (2,)), (0, 2)),
    (1, ((1,), (2,), (3,), (3,)), (0, 3)),
    (1, ((1,), (2,), (3,), (4,), (4,)), (0, 2, 4)),
    # An even number of a's; of a's and of b's; any number of abc's; of a's, and of b's with a c behind them.
    (2, ((1, 0), (0, 1)), (0,)),
    (2, ((1, 2), (0, 3), (3, 0), (2, 1)), (0,)),
    (3, ((1, 3, 3), (3, 2, 3), (3, 3, 0), (3, 3, 3)), (0,)),
    (3, ((0, 1, 2), (2, 1, 0), (2, 2, 2)), (0,)),
]


def star_machines():
    """Machines of one to five standings, well-known and drawn ones, and the closed ones among their stars."""
    found = list(dict.fromkeys(plain.lot_machines() + CLOSED))
    stars = [starred(machine) for machine in found]
    return found + [machine for machine in dict.fromkeys(stars) if len(machine[1]) <= 5 and machine not in found]
