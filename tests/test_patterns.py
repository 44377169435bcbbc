"""Point 16: patterns, their machines, and which of them are refused for their size."""

import random
import unittest

from seamlots.patterns import is_pattern, machine_of
from seamlots.wrongs import NoLetters, NoPattern, TooMany
from tests import plain, plain_made

LONGEST = {1: 12, 2: 6, 3: 4}
EMPTY, A, B, C = [("word", word) for word in ("", "a", "b", "c")]


def word(many, letter="a"):
    return "word", letter * many


def drawn(seed, times):
    """Drawn patterns of one to three letters, nested at most four deep, with the number of their letters."""
    rng = random.Random(seed)
    return [(letters, plain_made.some_pattern(rng, letters, rng.randrange(1, 5)))
            for letters in (1, 2, 3) for _ in range(times)]


def deeper(pattern, many, way="not"):
    for _ in range(many):
        pattern = (way, pattern)
    return pattern


DRAWN = drawn(131, 220)


class Patterns(unittest.TestCase):
    def check(self, letters, value):
        right = plain_made.is_pattern(letters, value)
        self.assertIs(is_pattern(letters, value), right, (letters, value))
        if not right:
            with self.assertRaises(NoPattern):
                machine_of(letters, value)
        return right

    def test_drawn_patterns(self):
        for letters, pattern in DRAWN:
            for own in (1, 2, 3):
                self.assertIs(is_pattern(letters, pattern), True)
                self.check(own, pattern)

    def test_patterns_bent_at_one_place(self):
        rng = random.Random(132)
        found = {True: 0, False: 0}
        for letters, pattern in DRAWN:
            for _ in range(6):
                value = plain.changed(rng, pattern)
                found[self.check(letters, value)] += 1
                ways = ["word", "not", "many", "or", "and", "then", "", "Not", "star", None, ("or",), ["not"], 0, True]
                place = rng.choice(plain.places(pattern))
                found[self.check(letters, plain.put(pattern, place, rng.choice(ways)))] += 1
                part = "word", rng.choice(["", "a", "b", "c", "d"])
                found[self.check(letters, plain.put(pattern, place, part))] += 1
        self.assertGreater(min(found.values()), 400)

    def test_told_values(self):
        for value in (("word", "a"), ("word", ""), ("not", A), ("many", A), ("or", A, A), ("and", A, EMPTY),
                      ("then", EMPTY, A)):
            for letters in (1, 2, 3):
                self.assertIs(is_pattern(letters, value), True)
        for value in (("word",), ("word", "a", "a"), ("word", A), ("word", ("a",)), ("word", None), ("word", 0), "word",
                      "a", ["word", "a"], ("not",), ("not", A, A), ("not", "a"), ("many",), ("many", A, A), ("or", A),
                      ("or", A, A, A), ("or",), ("and", A), ("and", A, "a"), ("then", A), ("then", A, A, A),
                      ("then", A, ["word", "a"]), ("Word", "a"), (A, A), (None, A), (True, A), ("", "a"),
                      (("word",), "a"), ("words", "a"), ("not", ("not",)), ("or", A, None), ("or", None, A),
                      ("many", []), ("not", ()), ("word", "A"), ("word", "ab c"), ("word", "d"), ("word", "a\n"),
                      ("word", "\u00e4")):
            for letters in (1, 2, 3):
                self.assertIs(self.check(letters, value), False)

    def test_letters_count(self):
        for letters in (1, 2, 3):
            for told, pattern in enumerate((A, B, C), 1):
                for value in (pattern, ("not", pattern), ("or", A, pattern), ("then", ("many", pattern), A)):
                    self.assertIs(self.check(letters, value), told <= letters)

    def test_words_of_thirty_letters_and_more(self):
        for letters in (1, 2, 3):
            for many in (0, 1, 29, 30, 31, 32, 33, 100, 299990):
                for value in (word(many), ("not", word(many)), ("or", A, word(many))):
                    self.assertIs(self.check(letters, value), many <= 30)

    def test_nested_eight_and_nine_deep(self):
        for deep in range(1, 30):
            for way in ("not", "many"):
                self.assertIs(self.check(1, deeper(A, deep - 1, way)), deep <= 8)
            for way in ("or", "and", "then"):
                for left in (True, False):
                    value = A
                    for _ in range(deep - 1):
                        value = (way, value, EMPTY) if left else (way, EMPTY, value)
                    self.assertIs(self.check(2, value), deep <= 8)
        full = A
        for _ in range(7):
            full = ("or", full, full)
        self.assertIs(self.check(1, full), True)
        self.assertIs(self.check(1, ("or", full, full)), False)
        self.assertIs(self.check(1, ("not", full)), False)
        self.assertEqual(machine_of(1, full), machine_of(1, A))

    def test_other_values(self):
        for value in plain.any_values():
            for letters in (1, 2, 3):
                for told in (value, ("not", value), ("word", value), ("or", A, value), (value, A), (value, A, A)):
                    if not (isinstance(value, str) and told[0] == "word"):
                        self.assertIs(self.check(letters, told), False)


class Machines(unittest.TestCase):
    def check(self, letters, pattern):
        """The machine of the pattern, or None if it is refused; held against the words that its parts make."""
        try:
            right = plain_made.machine_of(letters, pattern)
        except plain_made.Refused as due:
            with self.assertRaises(TooMany) as error:
                machine_of(letters, pattern)
            self.assertEqual(("TooMany", error.exception.limit), due.told, (letters, pattern))
            return None
        told = machine_of(letters, pattern)
        self.assertEqual(told, right, (letters, pattern))
        return told

    def test_drawn_patterns(self):
        sizes = {}
        for letters, pattern in DRAWN:
            told = self.check(letters, pattern)
            if told is None:
                continue
            sizes[len(told[1])] = sizes.get(len(told[1]), 0) + 1
            self.assertTrue(plain.is_machine(told))
            self.assertTrue(plain.is_smallest(told))
            longest = LONGEST[letters]
            taken = {own for own in plain.words(letters, longest) if plain.takes(told, own)}
            self.assertEqual(taken, plain_made.pattern_words(letters, pattern, longest), (letters, pattern))
        self.assertGreater(min(sizes[many] for many in (1, 2, 3, 4, 5, 6)), 10)

    def test_patterns_of_longer_words(self):
        rng = random.Random(133)
        found = {6: 0, 32: 0, None: 0}
        for letters in (1, 2, 3):
            for _ in range(220):
                pattern = plain_made.some_pattern(rng, letters, rng.randrange(2, 6), rng.choice((4, 6, 12, 30)))
                if rng.randrange(3) == 0:
                    pattern = rng.choice(("then", "or")), word(rng.randrange(15, 31)), pattern
                self.check(letters, pattern)
                try:
                    plain_made.machine_of(letters, pattern)
                    found[None] += 1
                except plain_made.Refused as due:
                    found[due.told[1]] += 1
        self.assertGreater(min(found.values()), 15)

    def test_patterns_that_mean_the_same(self):
        rng = random.Random(134)
        checked = 0
        for letters in (1, 2, 3):
            for _ in range(60):
                one, two, three = [plain_made.some_pattern(rng, letters, rng.randrange(1, 4), 2) for _ in range(3)]
                for same in (
                        [one, ("not", ("not", one)), ("or", one, one), ("and", one, one), ("then", one, EMPTY),
                         ("then", EMPTY, one)],
                        [("or", one, two), ("or", two, one), ("not", ("and", ("not", one), ("not", two)))],
                        [("and", one, two), ("and", two, one), ("not", ("or", ("not", one), ("not", two)))],
                        [("then", one, ("then", two, three)), ("then", ("then", one, two), three)],
                        [("many", one), ("many", ("many", one)), ("or", EMPTY, ("many", one)),
                         ("many", ("or", EMPTY, one)), ("then", ("many", one), ("many", one))],
                        [("then", ("or", one, two), three), ("or", ("then", one, three), ("then", two, three))],
                        [("or", one, ("or", two, three)), ("or", ("or", three, one), two)]):
                    made = [self.check(letters, pattern) for pattern in same]
                    told = [machine for machine in made if machine is not None]
                    checked += len(told) > 1
                    self.assertEqual(told, told[:1] * len(told), (letters, same))
        self.assertGreater(checked, 900)

    def test_told_machines(self):
        every = {letters: (letters, ((0,) * letters,), (0,)) for letters in (1, 2, 3)}
        for letters in (1, 2, 3):
            none = (letters, ((0,) * letters,), ())
            empty_word = (letters, ((1,) * letters,) * 2, (0,))
            self.assertEqual(machine_of(letters, ("or", A, ("not", A))), every[letters])
            self.assertEqual(machine_of(letters, ("and", A, ("not", A))), none)
            self.assertEqual(machine_of(letters, EMPTY), empty_word)
            self.assertEqual(machine_of(letters, ("many", EMPTY)), empty_word)
            self.assertEqual(machine_of(letters, ("many", ("and", A, ("not", A)))), empty_word)
            self.assertEqual(machine_of(letters, ("then", A, ("and", A, ("not", A)))), none)
            self.assertEqual(machine_of(letters, ("then", ("and", A, ("not", A)), A)), none)
        self.assertEqual(machine_of(2, ("many", ("or", A, B))), every[2])
        self.assertEqual(machine_of(1, ("many", ("or", word(2), word(3)))), (1, ((1,), (2,), (2,)), (0, 2)))
        self.assertEqual(machine_of(2, ("word", "ab")), (2, ((1, 2), (2, 3), (2, 2), (2, 2)), (3,)))
        # The words of one letter more than the pattern names are none of it, but those that are not of it.
        self.assertEqual(machine_of(1, ("not", ("many", A))), (1, ((0,),), ()))
        self.assertEqual(machine_of(2, ("not", ("many", A))), (2, ((0, 1), (1, 1)), (1,)))


class Sizes(unittest.TestCase):
    def refused(self, letters, pattern):
        """The limit by which the pattern is refused, or None."""
        try:
            machine_of(letters, pattern)
        except TooMany as error:
            return error.limit
        return None

    def test_words_of_thirty_letters(self):
        for letters in (1, 2, 3):
            self.assertEqual(machine_of(letters, word(30)), plain_made.of_word(letters, "a" * 30))
            self.assertEqual(len(machine_of(letters, word(30))[1]), 32)
            self.assertEqual(len(machine_of(letters, ("not", word(30)))[1]), 32)
            self.assertEqual(len(machine_of(letters, ("or", word(30), word(7)))[1]), 32)
            self.assertIsNone(self.refused(letters, ("then", word(30), EMPTY)))
            self.assertEqual(self.refused(letters, ("then", word(30), A)), 32)
        self.assertEqual(len(machine_of(3, ("word", "abc" * 10))[1]), 32)

    def test_many_and_then_of_six_and_seven_standings(self):
        # A word of four letters has six standings.
        for letters in (1, 2, 3):
            for many in range(31):
                due = None if many <= 4 else 6
                self.assertEqual(self.refused(letters, ("many", word(many))), due)
                self.assertEqual(self.refused(letters, ("then", A, word(many))), due)
                self.assertIsNone(self.refused(letters, ("not", word(many))))
                # The first part may have more.
                self.assertEqual(self.refused(letters, ("then", word(many), A)), None if many <= 29 else 32)
        self.assertEqual(len(machine_of(1, ("many", word(4)))[1]), 4)
        # What counts is the smallest machine of the part.
        self.assertIsNone(self.refused(1, ("many", ("or", word(5), ("not", word(5))))))
        self.assertIsNone(self.refused(1, ("then", A, ("and", word(7), word(8)))))

    def test_results_of_thirty_two_and_thirty_three_standings(self):
        for pattern, many in ((("or", word(15), word(16, "b")), 32), (("or", word(16), word(16, "b")), 33),
                              (("then", word(28), word(2)), 32), (("then", word(28), word(3)), 33),
                              (("then", ("then", word(26), word(4)), EMPTY), 32),
                              (("then", word(27), word(4)), 33),
                              (("and", ("not", word(15)), ("not", word(16, "b"))), 32),
                              (("and", ("not", word(16)), ("not", word(16, "b"))), 33)):
            for wrapped in (pattern, ("not", pattern), ("or", pattern, pattern), ("and", A, pattern)):
                if many == 32:
                    self.assertIsNone(self.refused(2, wrapped))
                else:
                    self.assertEqual(self.refused(2, wrapped), 32)
            if many == 32:
                self.assertEqual(len(machine_of(2, pattern)[1]), 32)

    def test_then_with_great_results(self):
        # Words of the first part begin words of the second one at many places at once.
        found = {None: 0, 6: 0, 32: 0}
        some = ("or", A, B)
        for one in (word(19), ("word", "abab" * 6), ("many", ("or", word(2), word(2, "b"))), ("not", word(14))):
            for ahead in (one, ("then", ("many", some), one), ("or", word(12), one), ("and", ("not", word(27)), one)):
                for last in (("then", ("not", A), ("word", "ba")), ("many", ("or", word(3), word(2, "b"))),
                             ("then", A, ("then", some, ("then", some, some))), ("not", ("word", "aba"))):
                    for pattern in (("then", ahead, last), ("then", ("or", ahead, word(3)), last)):
                        try:
                            plain_made.machine_of(2, pattern)
                            due = None
                        except plain_made.Refused as refused:
                            due = refused.told[1]
                        found[due] += 1
                        self.assertEqual(self.refused(2, pattern), due, pattern)
        self.assertGreater(min(found.values()), 5)

    def test_which_refusal_is_due_first(self):
        too_great = ("or", word(16), word(16, "b"))
        repeated = ("many", word(5))
        behind = ("then", A, word(5))
        for six in (repeated, behind):
            for pattern, limit in (
                    (("or", too_great, six), 32), (("or", six, too_great), 6), (("and", six, too_great), 6),
                    (("and", too_great, six), 32), (("then", six, too_great), 6), (("then", too_great, six), 32),
                    (("many", too_great), 32), (("many", six), 6), (("not", six), 6), (("not", too_great), 32),
                    (("then", too_great, word(5)), 32), (("then", six, word(30)), 6), (("then", A, too_great), 32),
                    (("then", A, six), 6), (("or", ("not", ("not", too_great)), six), 32),
                    (("or", A, ("and", six, too_great)), 6)):
                self.assertEqual(self.refused(2, pattern), limit, pattern)
        # Of one "then" the six comes ahead of the thirty-two.
        self.assertEqual(self.refused(2, ("then", word(30), word(5))), 6)
        self.assertEqual(self.refused(2, ("then", word(30), word(4))), 32)

    def test_refusals_within_other_patterns(self):
        rng = random.Random(137)
        for inner, limit in ((("many", word(5)), 6), (("then", word(28), word(3)), 32), (("then", A, word(30)), 6)):
            for _ in range(40):
                pattern = inner
                for _ in range(rng.randrange(5)):
                    pattern = rng.choice((("not", pattern), ("or", A, pattern), ("or", pattern, B), ("many", pattern),
                                          ("and", pattern, pattern), ("then", B, pattern), ("then", pattern, EMPTY)))
                self.assertEqual(self.refused(2, pattern), limit, pattern)


class Refusals(unittest.TestCase):
    def test_letters_ahead_of_the_pattern(self):
        wrong = [value for value in plain.any_values() if value not in (1, 2, 3) or value is True]
        for letters in wrong + [4, -1, 1.5]:
            for pattern in (A, None, ("word", "d"), ("many", word(5)), [], ("then", word(30), A)):
                for asked in (is_pattern, machine_of):
                    with self.assertRaises(NoLetters):
                        asked(letters, pattern)

    def test_no_pattern_ahead_of_its_size(self):
        for pattern in (("or", ("many", word(5)), ("word", "c")), ("then", ("then", word(30), A), None),
                        ("many", word(31)), ("and", ("many", word(7)), ("word", "a" * 31)),
                        deeper(("many", word(5)), 7)):
            with self.assertRaises(NoPattern):
                machine_of(2, pattern)


if __name__ == "__main__":
    unittest.main()
