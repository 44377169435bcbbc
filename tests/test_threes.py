"""Point 14: three lots, made by two cuts."""

import itertools
import random
import unittest

from seamlots.cuts import failing_word
from seamlots.products import splitting_cuts
from seamlots.threes import failing_three, middle_lot, three_cuts
from seamlots.wrongs import NoCut, NoMachine, TooMany
from tests import plain

def few_standings():
    rng = random.Random(90)
    drawn = [draw(rng, letters, many) for letters in (1, 2, 3) for many in (2, 3, 4) for draw in (
        plain.some_machine, plain.one_way) for _ in range(6)]
    return [machine for machine in plain.lot_machines() if len(machine[1]) <= 4] + drawn


MACHINES = few_standings()


def some_threes():
    """All pairs of cuts of machines of one to three standings, and drawn pairs for four."""
    rng = random.Random(91)
    found = []
    for machine in MACHINES:
        pairs = list(itertools.product(plain.cuts(machine), repeat=2))
        found += [(machine,) + pair for pair in (rng.sample(pairs, 25) if len(machine[1]) == 4 else pairs)]
    return found


THREES = some_threes()


class MiddleLot(unittest.TestCase):
    def check(self, machine, cut, later):
        told = middle_lot(machine, cut, later)
        self.assertTrue(plain.is_machine(told))
        self.assertTrue(plain.is_smallest(told))
        runs = plain.walked(machine[0], (0, cut), lambda pair, letter: (
            plain.led(told, pair[0], letter), tuple(plain.led(machine, standing, letter) for standing in pair[1])))
        for own, run in runs:
            self.assertEqual(own in told[2], set(run) <= set(later), (machine, cut, later))
        return told

    def test_held_against_all_words(self):
        many = set()
        for machine, cut, later in THREES:
            many.add(len(self.check(machine, cut, later)[1]))
        self.assertLessEqual({1, 2, 3, 4, 5}, many)

    def test_held_against_short_words(self):
        for machine, cut, later in THREES[::7]:
            told = middle_lot(machine, cut, later)
            for word in plain.short_words(machine):
                self.assertEqual(plain.takes(told, word), plain.in_middle(machine, cut, later, word))

    def test_equal_cuts_and_either_one_the_less(self):
        machine = (1, ((1,), (2,), (3,), (3,)), (2,))
        self.assertEqual(self.check(machine, (0,), (1,)), (1, ((1,), (2,), (2,)), (1,)))
        self.assertEqual(self.check(machine, (1,), (0,)), (1, ((0,),), ()))
        self.assertEqual(self.check(machine, (1,), (1,)), (1, ((1,), (1,)), (0,)))
        self.assertEqual(self.check(machine, (0, 1), (1, 2)), (1, ((1,), (2,), (2,)), (1,)))
        self.assertEqual(self.check(machine, (0, 1), (0, 1)), (1, ((1,), (1,)), (0,)))
        self.assertEqual(self.check(machine, (3,), (3,)), (1, ((0,),), (0,)))
        # The ends of the machine have nothing to do with the middle lot.
        for ends in ((), (0,), (0, 1, 2, 3)):
            self.assertEqual(middle_lot(machine[:2] + (ends,), (0,), (1,)), (1, ((1,), (2,), (2,)), (1,)))


class FailingThree(unittest.TestCase):
    def check(self, machine, cut, later):
        told = failing_three(machine, cut, later)
        failing = plain.short_failing_threes(machine, cut, later)
        if failing:
            self.assertEqual(told, failing[0], (machine, cut, later))
        elif told is not None:
            self.assertNotIn(told, plain.short_words(machine))
            self.assertTrue(self.is_failing(machine, cut, later, told))
        return told

    def is_failing(self, machine, cut, later, word):
        places = range(len(word) + 1)
        return plain.takes(machine, word) and not any(
            plain.in_first(machine, cut, word[:one]) and plain.in_middle(machine, cut, later, word[one:other])
            and plain.in_second(machine, later, word[other:]) for one in places for other in places[one:])

    def test_held_against_short_words(self):
        lengths = {}
        for machine, cut, later in THREES:
            told = self.check(machine, cut, later)
            length = -1 if told is None else len(told)
            lengths[length] = lengths.get(length, 0) + 1
        self.assertGreater(min(lengths[length] for length in (-1, 0, 1, 2, 3)), 10)

    def test_held_against_all_sets_behind_all_places(self):
        checked = {True: 0, False: 0}
        for machine, cut, later in THREES:
            try:
                least = plain.failing_three(machine, cut, later, 300)
            except plain.TooGreat:
                continue
            checked[least is None] += 1
            self.assertEqual(failing_three(machine, cut, later), least, (machine, cut, later))
        self.assertGreater(min(checked.values()), 300)

    def test_a_pair_that_splits_lets_both_its_cuts_split(self):
        splits = 0
        for machine, cut, later in THREES:
            if failing_three(machine, cut, later) is None:
                splits += 1
                self.assertIsNone(failing_word(machine, cut))
                self.assertIsNone(failing_word(machine, later))
        self.assertGreater(splits, 300)

    def test_cuts_that_split_need_not_split_together(self):
        # One or two letters: the first cut makes them of one and at most one more, the other one the other way round.
        machine = (1, ((1,), (2,), (3,), (3,)), (1, 2))
        self.assertEqual([failing_word(machine, cut) for cut in ((1,), (0, 1))], [None, None])
        self.assertEqual([self.check(machine, *pair) for pair in (((1,), (1,)), ((0, 1), (1,)), ((1,), (0, 1)),
                                                                  ((0, 1), (0, 1)))], [None, "a", "a", None])

    def test_long_failing_words(self):
        for machine, cut, later, word in (
                ((3, ((2, 1, 1), (0, 3, 2), (3, 1, 1), (1, 0, 2)), (1, 2, 3)), (0,), (0, 2), "aaababa"),
                ((2, ((3, 0), (2, 0), (0, 3), (1, 0)), (0, 2, 3)), (0, 3), (0, 2, 3), "aaabaa"),
                ((2, ((1, 0), (3, 1), (2, 0), (0, 2)), (0, 1, 2)), (0,), (0, 1), "abbaba"),
                ((3, ((2, 2, 2), (3, 3, 2), (2, 2, 3), (2, 1, 1)), (2, 3)), (0, 2), (0, 1, 2), "ccbacb"),
                ((1, ((3,), (2,), (1,), (2,)), (0, 2, 3)), (0, 3), (0, 2, 3), "aaaa")):
            self.assertEqual(self.check(machine, cut, later), word)

    def test_no_words(self):
        for machine, cut, later in THREES[::5]:
            self.assertIsNone(failing_three(machine[:2] + ((),), cut, later))

    def test_empty_words_in_the_lots(self):
        # All three may be the empty word, and the empty word may fail.
        machine = (2, ((1, 1), (1, 1)), (0,))
        pairs = ((0,), (0,)), ((0,), (1,)), ((1,), (0,)), ((1,), (1,)), ((0,), (0, 1))
        self.assertEqual([self.check(machine, *pair) for pair in pairs], [None, "", "", "", ""])


class ThreeCuts(unittest.TestCase):
    def test_held_against_short_words(self):
        many = {}
        for machine in MACHINES:
            told = three_cuts(machine)
            self.assertIs(type(told), list)
            self.assertEqual(told, sorted(told))
            many[len(told)] = many.get(len(told), 0) + 1
            for pair in told:
                self.assertIs(type(pair), tuple)
                self.assertFalse(plain.is_idle_three(machine, *pair))
                self.assertEqual(plain.short_failing_threes(machine, *pair), [], (machine, pair))
        self.assertGreater(min(many[length] for length in (0, 1, 3)), 5)

    def test_all_pairs_of_one_to_three_standings(self):
        many = 0
        for machine in MACHINES:
            if len(machine[1]) <= 3:
                right = [pair for pair in itertools.product(plain.cuts(machine), repeat=2)
                         if not plain.is_idle_three(machine, *pair)
                         and plain.failing_three(machine, *pair, 100000) is None]
                many += len(right)
                self.assertEqual(three_cuts(machine), right, machine)
        self.assertGreater(many, 200)

    def test_drawn_pairs_of_four_standings(self):
        rng = random.Random(92)
        checked = {True: 0, False: 0}
        for machine in MACHINES:
            if len(machine[1]) == 4:
                told = three_cuts(machine)
                pairs = [pair for pair in itertools.product(plain.cuts(machine), repeat=2)
                         if not plain.is_idle_three(machine, *pair)]
                for pair in rng.sample(pairs, min(len(pairs), 12)) + told[:5]:
                    try:
                        splits = plain.failing_three(machine, *pair, 400) is None
                    except plain.TooGreat:
                        continue
                    checked[splits] += 1
                    self.assertIs(pair in told, splits, (machine, pair))
        self.assertGreater(min(checked.values()), 50)

    def test_held_against_failing_three(self):
        for machine in MACHINES:
            right = [pair for pair in itertools.product(plain.cuts(machine), repeat=2)
                     if not plain.is_idle_three(machine, *pair) and failing_three(machine, *pair) is None]
            self.assertEqual(three_cuts(machine), right)

    def test_both_cuts_split(self):
        for machine in MACHINES:
            cuts = splitting_cuts(machine)
            for cut, later in three_cuts(machine):
                self.assertIn(cut, cuts)
                self.assertIn(later, cuts)

    def test_told_machines(self):
        # Two letters make no three words that are not empty.
        self.assertEqual(three_cuts((1, ((1,), (2,), (3,), (3,)), (2,))), [])
        self.assertEqual(three_cuts(plain.row(2, (1,))), [((0, 1), (0, 1)), ((0, 1), (1,)), ((1,), (1,))])
        self.assertEqual(three_cuts((3, ((0, 0, 0),), (0,))), [((0,), (0,))])
        self.assertEqual(three_cuts((2, ((0, 1), (2, 1), (2, 2)), (0, 1))), [
            ((0,), (0,)), ((0,), (0, 1)), ((0, 1), (0, 1))])
        for machine in plain.PRIMES:
            if len(machine[1]) <= 4:
                self.assertEqual(three_cuts(machine), [])


class Refusals(unittest.TestCase):
    def test_no_machine_and_no_cut(self):
        machine = (2, ((0, 1), (1, 1)), (1,))
        for value in plain.any_values():
            with self.assertRaises(NoMachine):
                three_cuts(value)
            for asked in (middle_lot, failing_three):
                for other in ((0,), value):
                    with self.assertRaises(NoMachine):
                        asked(value, other, (0,))
                    with self.assertRaises(NoMachine):
                        asked(value, (0,), other)
                    with self.assertRaises(NoCut):
                        asked(machine, value, other)
                    with self.assertRaises(NoCut):
                        asked(machine, other, value)

    def test_more_than_four_standings(self):
        for machine in (plain.ring(5, (0,)), plain.row(5, (4,), 2), plain.ring(6, (0,), 3), plain.ring(32, (3,))):
            for asked in (three_cuts, lambda told: middle_lot(told, (0,), (1,)),
                          lambda told: failing_three(told, (4,), (0,))):
                with self.assertRaises(TooMany) as error:
                    asked(machine)
                self.assertEqual(error.exception.limit, 4)


if __name__ == "__main__":
    unittest.main()
