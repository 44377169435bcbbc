"""Point 18, with points 2, 3 and 16 for it: the shelf, held against a plain account of its own."""

import copy
import random
import unittest

from seamlots import wrongs
from seamlots.cuts import first_lot, second_lot
from seamlots.patterns import machine_of
from seamlots.shelf import Shelf
from seamlots.smallest import smallest
from tests import plain, plain_made

ONE = (1, ((1,), (2,), (2,)), (1,))
ALL = (2, ((0, 0),), (0,))
NONE = (2, ((0, 0),), ())
NO_NAMES = [None, True, False, 0, 1, "", "A", "aB", "a b", "a1", "abcdefghi", "\u00e4", "a\n", "a_b", ("a",), ["a"], [],
            (), "a" * 1000, (("a",),), [["a"]], "\u0430", b"a", 1.0]
# Its star has forty-eight standings, though it has but six.
GREAT_STAR = (2, ((1, 0), (2, 2), (3, 3), (4, 4), (5, 5), (0, 0)), (5,))


def told_by(asked, arguments):
    """What a call tells or raises, as an account has it."""
    try:
        return "told", asked(*arguments)
    except plain_made.Refused as refused:
        return refused.told
    except wrongs.SeamError as error:
        kept = list(vars(error).values())
        return type(error).__name__, kept[0] if kept else None


def views(shelf):
    """All that a shelf tells without arguments, and all its machines."""
    return shelf.marks(), shelf.names(), shelf.equal_names(), [shelf.machine(name) for name in shelf.names()]


class Histories(unittest.TestCase):
    """Drawn histories of many calls."""

    def setUp(self):
        self.rng = random.Random(151)
        self.found = {}

    def name(self, shelf, free=False):
        rng = self.rng
        names = ["a", "b", "cc", "abcdefgh", "z", "zz", "one", "two", "x", "y", "w", "v", "u", "t", "s", "r"]
        known = shelf.names()
        if rng.randrange(12) == 0:
            return rng.choice(NO_NAMES)
        if free:
            return rng.choice([name for name in names if name not in known] or names)
        return rng.choice(known) if known and rng.randrange(12) else rng.choice(names)

    def drawn_machine(self):
        rng = self.rng
        kind = rng.randrange(12)
        letters = rng.choice((1, 2, 2, 2, 2, 3))
        if kind == 0:
            return rng.choice([None, (2, ((0, 0),), [0]), (2, ((0, 2), (1, 0)), ()), [], "a", (1, (), ()), True])
        if kind == 1:
            return plain.row(rng.choice((8, 20, 31, 32)), (rng.randrange(6),), letters)
        if kind == 2:
            return plain.ring(rng.choice((7, 11, 13, 32)), (0, 3), letters)
        if kind == 3:
            return rng.choice(plain.WELL_KNOWN + plain.PRIMES + [GREAT_STAR, ALL, NONE])
        return plain.some_machine(rng, letters, rng.randrange(1, 7))

    def call(self, shelf):
        """A drawn method with drawn arguments."""
        rng = self.rng
        kind = rng.randrange(30)
        if kind < 6:
            return "put", (self.name(shelf, rng.randrange(8) > 0), self.drawn_machine())
        if kind < 13:
            way = rng.choice(("or", "and", "then", "then", "or", "and", "many", "", None, ["or"], ("or",)))
            return "join", (self.name(shelf, rng.randrange(8) > 0), way, self.name(shelf), self.name(shelf))
        if kind < 17:
            way = rng.choice(("not", "many", "many", "not", "or", "word", True, ["not"]))
            return "turn", (self.name(shelf, rng.randrange(8) > 0), way, self.name(shelf))
        if kind < 19:
            return "remove", (self.name(shelf),)
        if kind < 21:
            return "mark", ()
        if kind < 22:
            return "back", (rng.choice((0, 1, 2, 3, 4, 5, 5, 6, -1, True, False, None, "0", [0], (0,), 10 ** 30)),)
        if kind < 24:
            return "machine", (self.name(shelf),)
        if kind < 27:
            return "parting", (self.name(shelf), self.name(shelf))
        if kind < 28:
            return "split", (self.name(shelf),)
        return "lacking", (self.name(shelf), self.name(shelf))

    def check_call(self, shelf, account):
        before = views(shelf)
        method, arguments = self.call(shelf)
        kept = copy.deepcopy(arguments)
        right = told_by(getattr(account, method), arguments)
        told = told_by(getattr(shelf, method), arguments)
        self.assertEqual(told, right, (method, arguments))
        self.assertIs(type(told[1]), type(right[1]))
        self.assertEqual(arguments, kept)
        self.assertEqual(views(shelf), views(account))
        if told[0] != "told":
            self.assertEqual(views(shelf), before)
        kind = (method, told[0], told[1] if told[0] == "TooMany" else None)
        self.found[kind] = self.found.get(kind, 0) + 1

    def test_drawn_histories(self):
        for _ in range(70):
            shelf, account = Shelf(), plain_made.Account()
            for _ in range(90):
                self.check_call(shelf, account)
            self.check_stored(shelf)
        for kind in ("put", "join", "turn", "remove", "mark", "back", "machine", "parting", "split", "lacking"):
            self.assertGreater(self.found[kind, "told", None], 20)
        for kind in (("put", "NoName"), ("put", "NameTaken"), ("put", "NoMachine"), ("put", "TooMany", 12),
                     ("join", "NoName"), ("join", "NameTaken"), ("join", "NoWay"), ("join", "UnknownName"),
                     ("join", "NotAlike"), ("join", "TooMany", 6), ("join", "TooMany", 32), ("join", "TooMany", 12),
                     ("turn", "NoName"), ("turn", "NameTaken"), ("turn", "NoWay"), ("turn", "UnknownName"),
                     ("turn", "TooMany", 6), ("turn", "TooMany", 12), ("remove", "UnknownName"),
                     ("mark", "TooMany", 6), ("back", "NoMark"), ("machine", "UnknownName"),
                     ("parting", "UnknownName"), ("parting", "NotAlike"), ("split", "UnknownName"),
                     ("split", "TooMany", 5), ("lacking", "UnknownName"), ("lacking", "NotAlike"),
                     ("lacking", "TooMany", 5)):
            self.assertGreater(self.found.get((kind + (None,))[:3], 0), 4, kind)

    def check_stored(self, shelf):
        for name in shelf.names():
            machine = shelf.machine(name)
            self.assertTrue(plain.is_machine(machine))
            self.assertTrue(plain.is_smallest(machine))

    def test_two_shelves_know_nothing_of_each_other(self):
        shelves = [Shelf(), Shelf()]
        accounts = [plain_made.Account(), plain_made.Account()]
        for _ in range(300):
            at = self.rng.randrange(2)
            self.check_call(shelves[at], accounts[at])
            self.assertEqual(views(shelves[1 - at]), views(accounts[1 - at]))


class ShortWords(unittest.TestCase):
    """What is stored takes just the words that it should: held against sets of short words."""

    LONGEST = {1: 12, 2: 6, 3: 4}

    def test_drawn_histories(self):
        rng = random.Random(152)
        made = {way: 0 for way in ("put", "or", "and", "then", "not", "many")}
        for letters in (1, 2, 3):
            longest = self.LONGEST[letters]
            every = set(plain.words(letters, longest))
            for _ in range(12):
                shelf, lots, marks = Shelf(), {}, []
                for at in range(40):
                    name = "".join(rng.choice("abcxyz") for _ in range(rng.randrange(1, 9)))
                    way = rng.choice(list(made))
                    names = sorted(lots)
                    if name in lots or len(lots) == 12:
                        gone = rng.choice(names)
                        shelf.remove(gone)
                        del lots[gone]
                        continue
                    one, other = (rng.choice(names), rng.choice(names)) if names else (None, None)
                    if way == "put" or not names:
                        way = "put"
                        machine = plain.some_machine(rng, letters, rng.randrange(1, 5))
                        shelf.put(name, machine)
                        told = {word for word in every if plain.takes(machine, word)}
                    else:
                        try:
                            if way in ("not", "many"):
                                shelf.turn(name, way, one)
                            else:
                                shelf.join(name, way, one, other)
                        except wrongs.TooMany:
                            continue
                        told = self.made(way, lots[one], lots[other], every, longest)
                    lots[name] = told
                    made[way] += 1
                    if rng.randrange(8) == 0 and len(marks) < 6:
                        self.assertEqual(shelf.mark(), len(marks))
                        marks.append(dict(lots))
                    if rng.randrange(10) == 0 and marks:
                        number = rng.randrange(len(marks))
                        shelf.back(number)
                        lots, marks = dict(marks[number]), marks[:number + 1]
                    self.assertEqual(shelf.names(), sorted(lots))
                    for name, lot in lots.items():
                        machine = shelf.machine(name)
                        self.assertTrue(plain.is_smallest(machine))
                        if at % 8 == 0 or lot is told:
                            self.assertEqual({word for word in every if plain.takes(machine, word)}, lot)
        self.assertGreater(min(made.values()), 40)

    def made(self, way, one, other, every, longest):
        if way == "not":
            return every - one
        if way == "many":
            return plain_made.short_star(one, longest)
        if way == "then":
            return {ahead + word for ahead in one for word in other if len(ahead + word) <= longest}
        return one | other if way == "or" else one & other


class Answers(unittest.TestCase):
    """equal_names, parting, split and lacking."""

    def shelf(self, seed):
        """A shelf of drawn and well-known machines, put, joined and turned, of unlike numbers of letters."""
        rng = random.Random(seed)
        shelf = Shelf()
        known = plain.WELL_KNOWN + plain.PRIMES + plain.TOLD_MACHINES
        while len(shelf.names()) < 12:
            name = "".join(rng.choice("pqrst") for _ in range(rng.randrange(1, 4)))
            names = shelf.names()
            try:
                kind = rng.randrange(6)
                if kind < 2 or len(names) < 4:
                    machine = rng.choice(known) if kind else plain.some_machine(rng, rng.randrange(1, 4), 4)
                    shelf.put(name, plain.renumbered(rng, plain.with_unreached(rng, machine)))
                elif kind < 5:
                    shelf.join(name, rng.choice(("or", "and", "then")), rng.choice(names), rng.choice(names))
                else:
                    shelf.turn(name, rng.choice(("not", "many")), rng.choice(names))
            except wrongs.SeamError:
                continue
        return shelf

    def test_of_many_shelves(self):
        found = {"equal": 0, "parting": 0, "none": 0, "split": 0, "prime": 0, "lacking": 0, "factor": 0, "great": 0}
        for seed in range(160, 175):
            shelf = self.shelf(seed)
            names = shelf.names()
            machines = {name: shelf.machine(name) for name in names}
            groups = shelf.equal_names()
            self.assertEqual(sorted(name for group in groups for name in group), names)
            self.assertEqual(groups, sorted(sorted(group) for group in groups))
            found["equal"] += sum(len(group) > 1 for group in groups)
            of = {name: at for at, group in enumerate(groups) for name in group}
            for one in names:
                self.check_split(shelf, one, machines[one], found)
                for other in names:
                    self.assertIs(of[one] == of[other], machines[one] == machines[other])
                    if machines[one][0] == machines[other][0]:
                        told = shelf.parting(one, other)
                        self.assertEqual(told, plain.parting_word(machines[one], machines[other]))
                        found["none" if told is None else "parting"] += one != other
                        self.check_lacking(shelf, one, other, machines, found)
        self.assertGreater(min(found.values()), 10)

    def check_split(self, shelf, name, machine, found):
        if len(machine[1]) > 5:
            found["great"] += 1
            with self.assertRaises(wrongs.TooMany) as error:
                shelf.split(name)
            self.assertEqual(error.exception.limit, 5)
            return
        told = shelf.split(name)
        for cut in plain.cuts_not_idle(machine):
            if told is not None and cut == told:
                self.assertIsNone(plain.failing_word(machine, cut, None))
                break
            self.assertIsNotNone(plain.failing_word(machine, cut, None))
        else:
            self.assertIsNone(told)
        found["prime" if told is None else "split"] += 1
        if told is not None:
            self.assertEqual(plain_made.behind(first_lot(machine, told), second_lot(machine, told)), machine)

    def check_lacking(self, shelf, name, first, machines, found):
        if len(machines[name][1]) > 5:
            with self.assertRaises(wrongs.TooMany) as error:
                shelf.lacking(name, first)
            self.assertEqual(error.exception.limit, 5)
            return
        told = shelf.lacking(name, first)
        self.assertEqual(told, plain.lacking_word(machines[name], machines[first], None))
        found["factor" if told is None else "lacking"] += 1

    def test_equal_names_of_machines_with_other_letters(self):
        shelf = Shelf()
        self.assertEqual(shelf.equal_names(), [])
        for letters, name in ((1, "e"), (2, "b"), (3, "d")):
            shelf.put(name, (letters, ((0,) * letters,), ()))
        shelf.put("a", (2, ((1, 1), (1, 0)), ()))
        shelf.put("c", (2, ((1, 1), (1, 0)), (0, 1)))
        self.assertEqual(shelf.equal_names(), [["a", "b"], ["c"], ["d"], ["e"]])
        shelf.turn("aa", "not", "c")
        self.assertEqual(shelf.equal_names(), [["a", "aa", "b"], ["c"], ["d"], ["e"]])

    def test_split_tells_the_least_cut(self):
        shelf = Shelf()
        for machine in plain.lot_machines()[::3]:
            shelf.put("one", machine)
            stored = shelf.machine("one")
            right = [cut for cut in plain.cuts_not_idle(stored) if plain.failing_word(stored, cut, None) is None]
            self.assertEqual(shelf.split("one"), right[0] if right else None)
            shelf.remove("one")

    def test_machines_of_thirty_two_standings(self):
        shelf = Shelf()
        for name, machine in (("one", plain.ring(32, (0,))), ("two", plain.ring(32, (31,))),
                              ("few", plain.ring(4, (0,)))):
            shelf.put(name, machine)
        self.assertEqual(shelf.parting("one", "two"), "")
        self.assertEqual(shelf.parting("one", "few"), "aaaa")
        self.assertIsNone(shelf.lacking("few", "one"))
        self.assertEqual(shelf.lacking("few", "two"), "")


class Steps(unittest.TestCase):
    """Patterns made step by step by join and turn."""

    def build(self, rng, letters, pattern, shelf, in_order):
        """Stores the machine of the pattern, of its parts the first one first or in a drawn order; tells its name."""
        way, *parts = pattern
        self.made += 1
        name = "".join("klmnopqrst"[int(digit)] for digit in str(self.made))
        if way == "word":
            shelf.put(name, plain_made.of_word(letters, parts[0]))
            return name
        turn_round = not in_order and rng.randrange(2)
        made = [self.build(rng, letters, part, shelf, in_order) for part in (parts[::-1] if turn_round else parts)]
        if len(made) == 1:
            shelf.turn(name, way, made[0])
        else:
            shelf.join(name, way, *(made[::-1] if turn_round else made))
        self.between(rng, shelf, made)
        return name

    def between(self, rng, shelf, spent):
        """Removes names that are spent, and makes marks and goes back to them at once."""
        for name in dict.fromkeys(spent):
            shelf.remove(name)
        if rng.randrange(3) == 0 and len(shelf.marks()) < 6:
            number = shelf.mark()
            if rng.randrange(2):
                if len(shelf.names()) < 12:
                    shelf.put("away", ALL)
                for name in shelf.names():
                    shelf.remove(name)
                shelf.back(number)

    def test_drawn_patterns(self):
        rng = random.Random(153)
        self.made = 0
        found = {None: 0, 6: 0, 32: 0}
        for letters in (1, 2, 3):
            for _ in range(130):
                pattern = plain_made.some_pattern(rng, letters, rng.randrange(1, 6), rng.choice((2, 3, 4, 9)))
                if rng.randrange(4) == 0:
                    long_word = "word", "a" * rng.randrange(24, 31)
                    pattern = rng.choice((("then", long_word, pattern), ("then", long_word, ("not", pattern)),
                                          ("or", long_word, ("then", ("word", "aaa"), pattern))))
                shelf = Shelf()
                try:
                    right = machine_of(letters, pattern)
                except wrongs.TooMany as error:
                    found[error.limit] += 1
                    with self.assertRaises(wrongs.TooMany) as told:
                        self.build(rng, letters, pattern, shelf, True)
                    self.assertEqual(told.exception.limit, error.limit)
                    with self.assertRaises(wrongs.TooMany) as told:
                        self.build(rng, letters, pattern, Shelf(), False)
                    self.assertIn(told.exception.limit, (6, 32))
                    continue
                found[None] += 1
                self.assertEqual(shelf.machine(self.build(rng, letters, pattern, shelf, False)), right)
        self.assertGreater(min(found.values()), 10)


class Refusals(unittest.TestCase):
    def full(self):
        """A shelf with twelve machines, among them great ones and such with other letters, and with six marks."""
        shelf = Shelf()
        for name, machine in (("one", ONE), ("two", ALL), ("six", plain.row(6, (4,), 2)), ("star", GREAT_STAR),
                              ("seven", plain.row(7, (5,), 2)), ("great", plain.row(32, (30,), 2)),
                              ("ring", plain.ring(31, (0,), 2))):
            shelf.put(name, machine)
        for name in ("va", "vb", "vc", "vd", "ve"):
            shelf.put(name, NONE)
        for _ in range(6):
            shelf.mark()
        return shelf

    def refused(self, shelf, due, kept, method, *arguments):
        before = views(shelf)
        with self.assertRaises(wrongs.SeamError) as error:
            getattr(shelf, method)(*arguments)
        self.assertIs(type(error.exception), due, (method, arguments))
        if kept:
            field = {wrongs.TooMany: "limit", wrongs.NoMark: "number"}.get(due, "name")
            self.assertEqual(vars(error.exception), {field: kept[0]})
            self.assertIs(type(getattr(error.exception, field)), type(kept[0]))
        self.assertEqual(views(shelf), before)

    def test_names_of_any_kind(self):
        shelf = self.full()
        for value in NO_NAMES + [value for value in plain.any_values() if value != "d"]:
            for rest in ((ONE,), (None,)):
                self.refused(shelf, wrongs.NoName, [value], "put", value, *rest)
            for rest in (("or", "two", "two"), (None, None, None), ("or", value, value)):
                self.refused(shelf, wrongs.NoName, [value], "join", value, *rest)
            for rest in (("not", "two"), (value, value)):
                self.refused(shelf, wrongs.NoName, [value], "turn", value, *rest)
            for method in ("remove", "machine", "split"):
                self.refused(shelf, wrongs.UnknownName, [value], method, value)
            for other in ("two", "one", "great", "none", value, None):
                for method in ("parting", "lacking"):
                    self.refused(shelf, wrongs.UnknownName, [value], method, value, other)
            for method in ("parting", "lacking"):
                self.refused(shelf, wrongs.UnknownName, [value], method, "great", value)
            self.refused(shelf, wrongs.UnknownName, [value], "join", "new", "or", value, value)
            self.refused(shelf, wrongs.UnknownName, [value], "join", "new", "then", "one", value)
            self.refused(shelf, wrongs.UnknownName, [value], "turn", "new", "many", value)

    def test_names_of_one_to_eight_letters(self):
        shelf = Shelf()
        for name in ("a", "z", "az", "abcdefgh", "zzzzzzzz"):
            self.assertIsNone(shelf.put(name, ONE))
        self.refused(shelf, wrongs.NoName, ["abcdefghi"], "put", "abcdefghi", ONE)
        self.refused(shelf, wrongs.NoName, [""], "put", "", ONE)
        self.assertEqual(shelf.names(), ["a", "abcdefgh", "az", "z", "zzzzzzzz"])

    def test_ways(self):
        shelf = self.full()
        ways = ["", "Or", "word", "xor", None, True, 0, [], (), ["or"], ("or",), "or ", ["not"], "nots", ("many",)]
        for way in ways + plain.any_values() + ["not", "many"]:
            for one, other in (("two", "two"), ("none", "none"), (None, []), ("one", "two"), ("great", "great")):
                self.refused(shelf, wrongs.NoWay, [], "join", "new", way, one, other)
        for way in ways + plain.any_values() + ["or", "and", "then"]:
            for one in ("two", "none", None, "great", "seven"):
                self.refused(shelf, wrongs.NoWay, [], "turn", "new", way, one)

    def test_the_error_that_is_due_first(self):
        shelf = self.full()
        for arguments, due, kept in (
                (("A", None), wrongs.NoName, ["A"]), (("one", None), wrongs.NameTaken, ["one"]),
                (("one", ONE), wrongs.NameTaken, ["one"]), (("new", None), wrongs.NoMachine, []),
                (("new", (2, ((0, 0),), (1,))), wrongs.NoMachine, []), (("new", ONE), wrongs.TooMany, [12])):
            self.refused(shelf, due, kept, "put", *arguments)
        for arguments, due, kept in (
                (("A", None, None, None), wrongs.NoName, ["A"]), (("one", None, None, None), wrongs.NameTaken, ["one"]),
                (("new", None, None, None), wrongs.NoWay, []), (("new", "many", "no", "no"), wrongs.NoWay, []),
                (("new", "or", "no", "non"), wrongs.UnknownName, ["no"]),
                (("new", "or", "one", "non"), wrongs.UnknownName, ["non"]),
                (("new", "then", "new", "new"), wrongs.UnknownName, ["new"]),
                (("new", "then", "one", "seven"), wrongs.NotAlike, []),
                (("new", "then", "one", "great"), wrongs.NotAlike, []),
                (("new", "or", "great", "one"), wrongs.NotAlike, []),
                (("new", "then", "great", "seven"), wrongs.TooMany, [6]),
                (("new", "then", "two", "seven"), wrongs.TooMany, [6]),
                (("new", "then", "great", "six"), wrongs.TooMany, [32]),
                (("new", "or", "great", "ring"), wrongs.TooMany, [32]),
                (("new", "and", "star", "ring"), wrongs.TooMany, [32]),
                (("new", "and", "great", "ring"), wrongs.TooMany, [12]),
                (("new", "or", "two", "great"), wrongs.TooMany, [12]),
                (("new", "then", "two", "two"), wrongs.TooMany, [12])):
            self.refused(shelf, due, kept, "join", *arguments)
        for arguments, due, kept in (
                (("A", None, None), wrongs.NoName, ["A"]), (("two", None, None), wrongs.NameTaken, ["two"]),
                (("new", "or", "no"), wrongs.NoWay, []), (("new", "not", "no"), wrongs.UnknownName, ["no"]),
                (("new", "many", "seven"), wrongs.TooMany, [6]), (("new", "many", "great"), wrongs.TooMany, [6]),
                (("new", "many", "star"), wrongs.TooMany, [32]), (("new", "not", "great"), wrongs.TooMany, [12]),
                (("new", "many", "six"), wrongs.TooMany, [12])):
            self.refused(shelf, due, kept, "turn", *arguments)
        for arguments, due, kept in (
                (("no", "non"), wrongs.UnknownName, ["no"]), (("one", "non"), wrongs.UnknownName, ["non"]),
                (("great", "one"), wrongs.NotAlike, []), (("one", "two"), wrongs.NotAlike, []),
                (("great", "non"), wrongs.UnknownName, ["non"])):
            for method in ("parting", "lacking"):
                self.refused(shelf, due, kept, method, *arguments)
        for name in ("six", "seven", "great", "ring", "star"):
            self.refused(shelf, wrongs.TooMany, [5], "split", name)
            self.refused(shelf, wrongs.TooMany, [5], "lacking", name, "two")
            shelf.lacking("two", name)
            shelf.parting("two", name)
        self.refused(shelf, wrongs.TooMany, [6], "mark")

    def test_at_the_bounds(self):
        shelf = self.full()
        for name in ("va", "vb", "vc", "vd"):
            shelf.remove(name)
        self.assertIsNone(shelf.join("new", "then", "two", "six"))
        self.assertIsNone(shelf.turn("newer", "many", "six"))
        self.assertIsNone(shelf.join("same", "or", "great", "great"))
        self.assertEqual(len(shelf.machine("same")[1]), 32)
        self.refused(shelf, wrongs.TooMany, [32], "turn", "newest", "many", "star")
        self.assertIsNone(shelf.turn("newest", "not", "great"))
        self.assertEqual(len(shelf.names()), 12)
        self.refused(shelf, wrongs.TooMany, [12], "put", "last", ONE)

    def test_twelve_machines(self):
        shelf = Shelf()
        names = ["n" + letter for letter in "abcdefghijkl"]
        for name in names:
            shelf.put(name, ONE)
        self.assertEqual(shelf.names(), names)
        for call in (("put", "no", ONE), ("join", "no", "or", "na", "nb"), ("turn", "no", "not", "na")):
            self.refused(shelf, wrongs.TooMany, [12], *call)
        shelf.remove("nc")
        self.assertIsNone(shelf.turn("no", "not", "na"))
        self.refused(shelf, wrongs.TooMany, [12], "put", "nc", ONE)

    def test_six_marks(self):
        shelf = Shelf()
        for value in (0, 1, -1, None, True, False, "0", [], 6):
            self.refused(shelf, wrongs.NoMark, [value], "back", value)
        for number in range(6):
            self.assertEqual(shelf.mark(), number)
            self.assertEqual(shelf.marks(), list(range(number + 1)))
            for value in (number + 1, -1, -number - 1, True, False, None, str(number), [number], (number,), 10 ** 30):
                self.refused(shelf, wrongs.NoMark, [value], "back", value)
        self.refused(shelf, wrongs.TooMany, [6], "mark")
        for value in plain.any_values():
            if value not in range(6) or value is True or value is False:
                self.refused(shelf, wrongs.NoMark, [value], "back", value)
        self.assertIsNone(shelf.back(5))
        self.refused(shelf, wrongs.TooMany, [6], "mark")
        self.assertIsNone(shelf.back(2))
        self.assertEqual([shelf.marks(), shelf.mark(), shelf.marks()], [[0, 1, 2], 3, [0, 1, 2, 3]])


class Marks(unittest.TestCase):
    def test_what_a_mark_stores_stays(self):
        shelf = Shelf()
        shelf.put("one", ONE)
        self.assertEqual(shelf.mark(), 0)
        shelf.put("two", ALL)
        self.assertEqual(shelf.mark(), 1)
        shelf.remove("one")
        shelf.put("one", NONE)
        self.assertIsNone(shelf.back(1))
        self.assertEqual([shelf.names(), shelf.machine("one"), shelf.marks()], [["one", "two"], smallest(ONE), [0, 1]])
        # The same mark, gone back to time and again, and with changes between.
        for _ in range(3):
            shelf.remove("two")
            shelf.turn("two", "not", "one")
            shelf.put("three", NONE)
            shelf.back(1)
            self.assertEqual([shelf.names(), shelf.machine("two")], [["one", "two"], ALL])
        shelf.back(0)
        self.assertEqual([shelf.names(), shelf.marks()], [["one"], [0]])
        self.refused_back(shelf, 1)
        shelf.remove("one")
        self.assertEqual(shelf.mark(), 1)
        shelf.back(0)
        self.assertEqual([shelf.names(), shelf.marks()], [["one"], [0]])

    def refused_back(self, shelf, number):
        with self.assertRaises(wrongs.NoMark):
            shelf.back(number)

    def test_refused_calls_change_no_mark(self):
        shelf = Shelf()
        shelf.put("one", ONE)
        shelf.mark()
        for call in (("put", "one", ALL), ("put", "A", ALL), ("join", "two", "or", "one", "no"),
                     ("turn", "two", "or", "one"), ("remove", "no"), ("back", 1)):
            with self.assertRaises(wrongs.SeamError):
                getattr(shelf, call[0])(*call[1:])
        shelf.remove("one")
        shelf.back(0)
        self.assertEqual([shelf.names(), shelf.machine("one")], [["one"], ONE])

    def test_told_lists_are_new_ones(self):
        shelf = Shelf()
        shelf.put("two", ONE)
        shelf.put("one", ONE)
        shelf.put("all", ALL)
        shelf.mark()
        shelf.mark()
        right = views(shelf)
        for asked in (shelf.names, shelf.marks, shelf.equal_names):
            told = asked()
            self.assertIsNot(asked(), told)
            told.reverse()
            told.append(["one"])
            del told[0]
            self.assertEqual(views(shelf), right)
        groups = shelf.equal_names()
        groups[1].append("all")
        groups[0].clear()
        self.assertEqual(views(shelf), right)
        shelf.back(0)
        self.assertEqual(views(shelf)[1:], right[1:])

    def test_what_is_put_is_the_smallest_machine(self):
        rng = random.Random(154)
        for machine in plain.lot_machines():
            shelf = Shelf()
            shelf.put("a", machine)
            shelf.put("b", plain.with_unreached(rng, machine))
            shelf.put("c", plain.renumbered(rng, plain.doubled(rng, machine)))
            self.assertEqual(shelf.machine("a"), plain_made.least_of(machine))
            self.assertEqual(shelf.equal_names(), [["a", "b", "c"]])


if __name__ == "__main__":
    unittest.main()
