"""Point 17: lengths, their sums and their sum pairs."""

import copy
import itertools
import random
import unittest

from seamlots.cuts import first_lot, second_lot
from seamlots.lengths import is_lengths, sum_pairs, sums
from seamlots.smallest import smallest
from seamlots.widened import closed_cuts
from seamlots.wrongs import NoLengths
from tests import plain, plain_made


def some_lengths(rng, many, greatest=40):
    return (0,) + tuple(sorted(rng.sample(range(1, greatest + 1), many - 1)))


def drawn(seed, times):
    """Drawn lengths of one to eight numbers, near and far ones."""
    rng = random.Random(seed)
    return [some_lengths(rng, many, greatest) for many in range(1, 9) for greatest in (8, 10, 15, 40)
            for _ in range(times)]


def made_of_two(seed, times):
    """Lengths that are the sums of two, each with two numbers or more."""
    rng = random.Random(seed)
    found = []
    while len(found) < times:
        one, other = [some_lengths(rng, rng.randrange(2, 5), rng.choice((3, 6, 20))) for _ in range(2)]
        told = plain_made.sums(one, other)
        if plain_made.is_lengths(told):
            found.append(told)
    return found


WRONG = [None, True, False, 0, "", "0", (), [], [0], [0, 1], (1,), (1, 2), (0, 0), (0, 1, 1), (0, 2, 1), (0, -1),
         (-1, 0), (-1,), (0, 41), (0, 1, 41), (41,), (False,), (False, 1), (0, True), (0, "1"), (0, None), (0, (1,)),
         ((0,),), (0, [1]), tuple(range(9)), (0,) + tuple(range(33, 41)), (0, 10 ** 5000), (0, 1.5), (0.0,)]


class Lengths(unittest.TestCase):
    def test_drawn_lengths_and_values_near_them(self):
        rng = random.Random(141)
        found = {True: 0, False: 0}
        for lengths in drawn(142, 20):
            self.assertIs(is_lengths(lengths), True)
            for value in (plain.changed(rng, lengths), plain.changed(rng, plain.changed(rng, lengths)), lengths[1:],
                          lengths + (40,), lengths + (41,), tuple(number + 1 for number in lengths)):
                right = plain_made.is_lengths(value)
                found[right] += 1
                self.assertIs(is_lengths(value), right, value)
        self.assertGreater(min(found.values()), 300)

    def test_edges(self):
        for value in ((0,), (0, 40), (0, 1), tuple(range(8)), (0,) + tuple(range(34, 41))):
            self.assertIs(is_lengths(value), True)
        for value in WRONG + plain.any_values():
            self.assertIs(is_lengths(value), False)


class Sums(unittest.TestCase):
    def test_held_against_all_pairs(self):
        rng = random.Random(143)
        told = drawn(144, 15)
        for one in told:
            for other in rng.sample(told, 8) + [one, (0,), tuple(range(8))]:
                answer = sums(one, other)
                self.assertIs(type(answer), tuple)
                self.assertEqual(answer, plain_made.sums(one, other))
                self.assertEqual(sums(other, one), answer)

    def test_beyond_what_lengths_allow(self):
        greatest = (0, 11, 16, 21, 26, 31, 36, 40)
        told = sums(greatest, (0, 1, 2, 3, 4, 38, 39, 40))
        self.assertEqual(told, plain_made.sums(greatest, (0, 1, 2, 3, 4, 38, 39, 40)))
        self.assertGreater(len(told), 40)
        self.assertEqual(told[-1], 80)
        self.assertEqual(sums((0, 40), (0, 40)), (0, 40, 80))
        self.assertEqual(sums((0,), (0,)), (0,))


class SumPairs(unittest.TestCase):
    def check(self, lengths):
        told = sum_pairs(lengths)
        self.assertIs(type(told), list)
        self.assertEqual(told, sorted(told))
        for pair in told:
            self.assertIs(type(pair), tuple)
            one, other = pair
            self.assertIs(is_lengths(one) and is_lengths(other), True)
            self.assertGreater(min(len(one), len(other)), 1)
            self.assertEqual(sums(one, other), lengths)
            self.assertIn((other, one), told)
        return told

    def test_held_against_all_pairs_of_parts(self):
        many = {}
        for lengths in drawn(145, 4) + made_of_two(146, 60):
            if len(lengths) < 8:
                told = self.check(lengths)
                self.assertEqual(told, plain_made.sum_pairs(lengths), lengths)
                many[len(told)] = many.get(len(told), 0) + 1
        self.assertGreater(min(many.get(number, 0) for number in (0, 2, 4)), 3)

    def test_eight_numbers(self):
        for lengths in [told for told in made_of_two(147, 120) if len(told) == 8][:3] + [
                tuple(range(8)), tuple(range(0, 40, 5)), (0, 1, 2, 3, 10, 11, 12, 13), (0, 1, 4, 9, 16, 25, 36, 40)]:
            self.assertEqual(self.check(lengths), plain_made.sum_pairs(lengths), lengths)

    def test_all_lengths_up_to_six(self):
        for many in range(7):
            for rest in itertools.combinations(range(1, 7), many):
                self.assertEqual(self.check((0,) + rest), plain_made.sum_pairs((0,) + rest))

    def test_what_is_made_of_two_has_a_sum_pair(self):
        for lengths in made_of_two(148, 300):
            self.assertGreater(len(self.check(lengths)), 0)

    def test_told_lengths(self):
        self.assertEqual([sum_pairs(lengths) for lengths in ((0,), (0, 1), (0, 40), (0, 1, 3))], [[]] * 4)
        self.assertEqual(sum_pairs((0, 1, 2)), [((0, 1), (0, 1))])
        self.assertEqual(sum_pairs((0, 20, 40)), [((0, 20), (0, 20))])
        # Of 0 and 2, and 0 and 1, neither can be given a number more; 0 and 1 beside 0, 1 and 2 likewise.
        self.assertEqual(sum_pairs((0, 1, 2, 3)), [((0, 1), (0, 1, 2)), ((0, 1, 2), (0, 1))])
        self.assertEqual(sum_pairs((0, 1, 3, 4)), [((0, 1), (0, 3)), ((0, 3), (0, 1))])


class AsMachines(unittest.TestCase):
    def lengths_of(self, machine):
        return tuple(many for many in range(12) if plain.takes(machine, "a" * many))

    def test_closed_cuts_have_just_the_lots_of_the_sum_pairs(self):
        rng = random.Random(149)
        pairs = 0
        for many in range(4):
            for rest in itertools.combinations(range(1, 4), many):
                lengths = (0,) + rest
                for machine in (plain.row(5, lengths), smallest(plain.row(5, lengths)),
                                plain.renumbered(rng, plain.row(5, lengths))):
                    told = [tuple(self.lengths_of(lot(machine, cut)) for lot in (first_lot, second_lot))
                            for cut in closed_cuts(machine)]
                    self.assertEqual(sorted(told), sum_pairs(lengths), machine)
                    pairs += len(told)
        self.assertEqual(pairs, 9)


class Refusals(unittest.TestCase):
    def test_no_lengths(self):
        right = (0, 1, 5)
        for value in WRONG + plain.any_values():
            with self.assertRaises(NoLengths):
                sum_pairs(value)
            for other in (right, value, (1,), None):
                with self.assertRaises(NoLengths):
                    sums(value, other)
                with self.assertRaises(NoLengths):
                    sums(other, value)

    def test_nothing_is_changed_and_lists_are_new_ones(self):
        for value in WRONG:
            before = copy.deepcopy(value)
            is_lengths(value)
            self.assertEqual(value, before)
            self.assertIs(type(value), type(before))
        for lengths in made_of_two(150, 20):
            told = sum_pairs(lengths)
            right = list(told)
            told.append(told.pop(0) + (0,))
            self.assertEqual(sum_pairs(lengths), right)
            self.assertIsNot(sum_pairs(lengths), sum_pairs(lengths))


if __name__ == "__main__":
    unittest.main()
