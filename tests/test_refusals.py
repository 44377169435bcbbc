"""Which error is due first, and that nothing is changed or kept."""

import copy
import itertools
import unittest

from seamlots import cuts, machines, smallest
from seamlots.wrongs import NoCut, NoMachine, NotAlike, NoWord, SeamError, TooMany
from tests import plain

FEW = (2, ((0, 1), (1, 1)), (1,))
FIVE = (2, ((1, 2), (2, 3), (3, 4), (4, 0), (0, 1)), (0, 3))
SIX = (2, ((1, 2), (2, 3), (3, 4), (4, 5), (5, 0), (0, 1)), (0, 3))
OTHER_LETTERS = (1, ((1,), (0,)), (0,))

NO_MACHINES = [None, [], (), "ab", 3, True, (2, ((0, 1), (1, 1)), [1]), (2, ((0, True), (1, 1)), (1,)),
               plain.nested(29, list), (2, ((0, 1), (1, 2)), (1,)), [2, ((0, 1), (1, 1)), (1,)]]
NO_CUTS = [None, [], (), "0", 0, True, [0], (1, 0), (0, 0), (True,), (0, 9), (-1,), plain.nested(29), ([0],)]
NO_WORDS = [None, [], (), 0, True, ["a"], ("a",), "c", "abc", "A", "a b", plain.nested(29, list)]

ASKED = [
    (machines.is_word, ("machine", "value"), False),
    (machines.standing_of, ("machine", "word"), False),
    (machines.takes, ("machine", "word"), False),
    (smallest.parting_word, ("machine", "other"), False),
    (smallest.smallest, ("machine",), False),
    (cuts.is_cut, ("machine", "value"), True),
    (cuts.first_lot, ("machine", "cut"), True),
    (cuts.second_lot, ("machine", "cut"), True),
    (cuts.is_idle, ("machine", "cut"), True),
    (cuts.cuttings, ("machine", "cut", "word"), True),
    (cuts.failing_word, ("machine", "cut"), True),
]

# For each kind of argument its right values, and its wrong ones with the error that is due for them.
RIGHT = {"machine": [FEW, FIVE], "other": [FEW, SIX], "cut": [(0,), (1,), (0, 1)], "word": ["", "a", "abba"],
         "value": [None, "a", "c", (0,), [0]]}
WRONG = {"machine": (NO_MACHINES, NoMachine), "other": (NO_MACHINES, NoMachine), "cut": (NO_CUTS, NoCut),
         "word": (NO_WORDS, NoWord), "value": ([], None)}


class Refusals(unittest.TestCase):
    def refused(self, asked, arguments):
        before = copy.deepcopy(arguments)
        with self.assertRaises(SeamError) as told:
            asked(*arguments)
        self.assertEqual(repr(arguments), repr(before))
        return told.exception

    def test_the_first_wrong_argument_tells_the_error(self):
        for asked, names, _ in ASKED:
            rows = [[(value, None) for value in RIGHT[name]] + [(value, WRONG[name][1]) for value in WRONG[name][0]]
                    for name in names]
            for row in itertools.product(*rows):
                errors = [error for _, error in row if error]
                arguments = [value for value, _ in row]
                with self.subTest(asked.__name__, arguments=arguments):
                    if errors:
                        self.assertIs(type(self.refused(asked, arguments)), errors[0])
                    else:
                        asked(*arguments)

    def test_more_than_five_standings_behind_the_others(self):
        for asked, names, is_limited in ASKED:
            rows = [[(value, None) for value in RIGHT[name]] + [(value, WRONG[name][1]) for value in WRONG[name][0]]
                    for name in names[1:]]
            for row in itertools.product(*rows):
                errors = [error for _, error in row if error]
                arguments = [SIX] + [value for value, _ in row]
                with self.subTest(asked.__name__, arguments=arguments):
                    if errors:
                        self.assertIs(type(self.refused(asked, arguments)), errors[0])
                    elif is_limited:
                        error = self.refused(asked, arguments)
                        self.assertIs(type(error), TooMany)
                        self.assertEqual(error.limit, 5)
                    else:
                        asked(*arguments)

    def test_the_word_is_one_of_the_machine(self):
        for asked in (machines.standing_of, machines.takes):
            self.assertIs(type(self.refused(asked, [OTHER_LETTERS, "b"])), NoWord)
        self.assertIs(type(self.refused(cuts.cuttings, [OTHER_LETTERS, (0,), "b"])), NoWord)
        self.assertIs(type(self.refused(cuts.cuttings, [OTHER_LETTERS, (2,), "b"])), NoCut)

    def test_other_numbers_of_letters_behind_no_machine(self):
        self.assertIs(type(self.refused(smallest.parting_word, [FEW, OTHER_LETTERS])), NotAlike)
        self.assertIs(type(self.refused(smallest.parting_word, [OTHER_LETTERS, FEW])), NotAlike)
        # What is no machine has no number of letters that could be another one.
        for wrong in ((1, ((0, 0),), ()), (1, ((5,),), ()), (1, (), ())):
            self.assertIs(type(self.refused(smallest.parting_word, [FEW, wrong])), NoMachine)
            self.assertIs(type(self.refused(smallest.parting_word, [wrong, FEW])), NoMachine)

    def test_five_standings_are_not_too_many(self):
        for cut in plain.cuts(FIVE):
            self.assertIs(cuts.is_cut(FIVE, cut), True)
            cuts.first_lot(FIVE, cut)
            cuts.second_lot(FIVE, cut)
            cuts.is_idle(FIVE, cut)
            cuts.cuttings(FIVE, cut, "abab")
            cuts.failing_word(FIVE, cut)


class Kept(unittest.TestCase):
    def test_right_arguments_are_not_changed_and_answers_stay(self):
        for asked, names, _ in ASKED:
            for arguments in itertools.product(*[RIGHT[name] for name in names]):
                before = copy.deepcopy(arguments)
                told = asked(*arguments)
                self.assertEqual(asked(*arguments), told)
                self.assertEqual(asked(*before), told)
                self.assertEqual(arguments, before)
                self.assertEqual(repr(arguments), repr(before))

    def test_values_with_lists_are_not_changed(self):
        value = [2, [[0, 1], [1, 1]], [1], "a", (0, [1])]
        before = copy.deepcopy(value)
        self.assertIs(machines.is_machine(value), False)
        self.assertIs(machines.is_machine((2, value, value)), False)
        self.assertIs(machines.is_word(FEW, value), False)
        self.assertIs(cuts.is_cut(FEW, value), False)
        self.assertEqual(value, before)

    def test_a_told_list_is_a_new_one_each_time(self):
        for word in ("", "a", "ab", "aba", "abbb"):
            for cut in plain.cuts(FEW):
                told = cuts.cuttings(FEW, cut, word)
                right = plain.cuttings(FEW, cut, word)
                self.assertEqual(told, right)
                told.append(99)
                again = cuts.cuttings(FEW, cut, word)
                self.assertIsNot(again, told)
                self.assertEqual(again, right)

    def test_no_lists_where_tuples_are_told(self):
        for told in (smallest.smallest(FIVE), cuts.first_lot(FIVE, (0, 1)), cuts.second_lot(FIVE, (0, 1))):
            for place in plain.places(told):
                self.assertIn(type(plain.part_at(told, place)), (int, tuple))

    def test_answers_after_refusals(self):
        told = cuts.failing_word(FIVE, (0, 1))
        for wrong in NO_MACHINES + [SIX]:
            with self.assertRaises(SeamError):
                cuts.failing_word(wrong, (0, 1))
            self.assertEqual(cuts.failing_word(FIVE, (0, 1)), told)


if __name__ == "__main__":
    unittest.main()
