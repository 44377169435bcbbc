"""Points 11 and 12: widened cuts, and words that can be cut twice."""

import itertools
import random
import unittest

from seamlots.cuts import cuttings, failing_word, second_lot
from seamlots.products import splitting_cuts
from seamlots.widened import closed_cuts, double_word, widened
from seamlots.wrongs import NoCut, NoMachine, TooMany
from tests import plain

MACHINES = plain.lot_machines()
MACHINES_WITH_CUTS = [(machine, cut) for machine in MACHINES for cut in plain.cuts(machine)]


class Widened(unittest.TestCase):
    def test_held_against_all_words(self):
        grown = {}
        for machine, cut in MACHINES_WITH_CUTS:
            told = widened(machine, cut)
            self.assertIs(type(told), tuple)
            self.assertEqual(told, plain.widened(machine, cut), (machine, cut))
            more = len(told) - len(cut)
            grown[more] = grown.get(more, 0) + 1
        self.assertGreater(min(grown[more] for more in range(4)), 50)

    def test_it_holds_the_cut_and_has_the_same_second_lot(self):
        for machine, cut in MACHINES_WITH_CUTS:
            told = widened(machine, cut)
            self.assertTrue(plain.is_cut(machine, told))
            self.assertLessEqual(set(cut), set(told))
            self.assertEqual(second_lot(machine, told), second_lot(machine, cut))
            self.assertEqual(widened(machine, told), told)

    def test_it_is_the_greatest_cut_with_the_same_second_lot(self):
        for machine in MACHINES[::3]:
            lots = {cut: frozenset(turn for turn in plain.turns(machine) if all(turn[at] in machine[2] for at in cut))
                    for cut in plain.cuts(machine)}
            for cut, lot in lots.items():
                same = [other for other in lots if lots[other] == lot]
                self.assertEqual(widened(machine, cut), tuple(sorted(set(itertools.chain(*same)))))

    def test_it_splits_where_the_cut_does(self):
        many = 0
        for machine, cut in MACHINES_WITH_CUTS:
            if failing_word(machine, cut) is None:
                told = widened(machine, cut)
                many += told != cut
                self.assertIsNone(failing_word(machine, told))
                self.assertEqual(plain.short_failing_words(machine, told), [])
        self.assertGreater(many, 100)

    def test_told_machines(self):
        # Without a word in the second lot all standings belong to the widened cut, also such as are never reached.
        machine = (2, ((0, 1), (1, 1), (0, 2)), (0,))
        self.assertEqual([widened(machine, cut) for cut in ((1,), (0, 1), (0,), (2,), (0, 2))],
                         [(0, 1, 2), (0, 1, 2), (0,), (2,), (0, 2)])
        # From 2 the same words are taken as from 1, and more than from 0.
        machine = (1, ((1,), (1,), (2,)), (1, 2))
        self.assertEqual([widened(machine, cut) for cut in ((0,), (1,), (2,), (0, 1))],
                         [(0, 1, 2), (1, 2), (1, 2), (0, 1, 2)])
        # With the empty word alone in the second lot the widened cut are the ends.
        machine = (2, ((1, 2), (3, 3), (3, 3), (3, 3)), (1, 2))
        self.assertEqual([widened(machine, cut) for cut in ((1,), (2,), (0,), (3,))],
                         [(1, 2), (1, 2), (0,), (0, 1, 2, 3)])


class ClosedCuts(unittest.TestCase):
    def test_held_against_all_cuts(self):
        many = {}
        for machine in MACHINES:
            told = closed_cuts(machine)
            self.assertIs(type(told), list)
            right = [cut for cut in splitting_cuts(machine) if plain.widened(machine, cut) == cut]
            self.assertEqual(told, right)
            many[len(told)] = many.get(len(told), 0) + 1
            if splitting_cuts(machine):
                self.assertGreater(len(told), 0)
        self.assertGreater(min(many[length] for length in range(4)), 5)

    def test_held_against_short_words(self):
        for machine in MACHINES:
            told = closed_cuts(machine)
            self.assertEqual(told, sorted(told))
            for cut in plain.cuts(machine):
                if cut in told:
                    self.assertIn(cut, plain.cuts_not_idle(machine))
                    self.assertEqual(plain.short_failing_words(machine, cut), [])
                elif cut in plain.cuts_not_idle(machine) and plain.widened(machine, cut) == cut:
                    self.assertIsNotNone(failing_word(machine, cut))

    def test_told_machines(self):
        self.assertEqual(closed_cuts((2, ((0, 1), (2, 1), (2, 2)), (0, 1))), [(0,), (0, 1)])
        self.assertEqual(closed_cuts((1, ((1,), (2,), (3,), (3,)), (1, 2))), [(0, 1), (1,)])
        self.assertEqual(closed_cuts((1, ((1,), (2,), (0,)), (0, 1, 2))), [(0, 1, 2)])
        # From 2 as from 0 all words are taken, so no cut without 2 is closed, though it is never reached.
        self.assertEqual(splitting_cuts((1, ((0,), (1,), (2,)), (0, 2))), [(0,), (0, 2)])
        self.assertEqual(closed_cuts((1, ((0,), (1,), (2,)), (0, 2))), [(0, 2)])
        for machine in plain.PRIMES:
            self.assertEqual(closed_cuts(machine), [])


class DoubleWord(unittest.TestCase):
    def check(self, machine, cut):
        told = double_word(machine, cut)
        for word in plain.short_words(machine):
            double = len(plain.short_cuttings(machine, cut, word)) > 1
            if told is None or plain.less(word, told):
                self.assertFalse(double, (machine, cut, word, told))
            elif word == told:
                self.assertTrue(double, (machine, cut, word))
        if told is not None:
            self.assertIs(type(told), str)
            self.assertGreater(len(plain.cuttings(machine, cut, told)), 1)
            self.assertEqual(cuttings(machine, cut, told), plain.cuttings(machine, cut, told))
        return told

    def test_held_against_short_words(self):
        lengths = {}
        for machine, cut in MACHINES_WITH_CUTS:
            told = self.check(machine, cut)
            length = -1 if told is None else len(told)
            lengths[length] = lengths.get(length, 0) + 1
        self.assertNotIn(0, lengths)
        self.assertGreater(min(lengths[length] for length in (-1, 1, 2, 3, 4)), 20)

    def test_held_against_all_sets_behind_all_places(self):
        checked = {True: 0, False: 0}
        for machine, cut in MACHINES_WITH_CUTS:
            try:
                least = plain.double_word(machine, cut, 300)
            except plain.TooGreat:
                continue
            checked[least is None] += 1
            self.assertEqual(double_word(machine, cut), least, (machine, cut))
        self.assertGreater(min(checked.values()), 300)

    def test_drawn_machines_with_few_ends(self):
        rng = random.Random(71)
        checked = 0
        while checked < 100:
            machine = plain.some_machine(rng, rng.randrange(1, 4), 5)[:2] + ((rng.randrange(5),),)
            cut = rng.choice(plain.cuts(machine))
            try:
                least = plain.double_word(machine, cut, 1000)
            except plain.TooGreat:
                continue
            if least is not None and len(least) < 5:
                continue
            checked += 1
            self.assertEqual(self.check(machine, cut), least, (machine, cut))

    def test_no_double_word(self):
        # Any number of a's and one b: each word can be cut behind the b alone.
        self.assertIsNone(self.check((2, ((0, 1), (2, 2), (2, 2)), (1,)), (1,)))
        # All words of two letters can be cut between them.
        self.assertIsNone(self.check(plain.row(4, (2,), 3), (1,)))
        for machine in ((1, ((0,),), ()), (2, ((1, 1), (1, 1)), (0,)), (1, ((1,), (2,), (2,)), (1,))):
            for cut in plain.cuts(machine):
                self.assertIsNone(self.check(machine, cut))

    def test_told_machines(self):
        self.assertEqual(self.check((2, ((0, 1), (1, 2), (2, 2)), (1,)), (0,)), "ab")
        self.assertEqual(self.check((2, ((0, 1), (1, 2), (2, 2)), (1,)), (1,)), "ba")
        # One of the two places may be in front of all letters, the other one behind them.
        self.assertEqual(self.check(plain.ring(4, (0,)), (0,)), "aaaa")

    def test_the_empty_word_has_one_place_only(self):
        for letters in (1, 2, 3):
            self.assertEqual(self.check((letters, ((0,) * letters,), (0,)), (0,)), "a")

    def test_long_double_words(self):
        for machine, cut, word in (
                (plain.ring(5, (4,)), (3,), None), (plain.ring(5, (3,)), (4,), "a" * 13),
                ((1, ((1,), (3,), (0,), (4,), (2,)), (0, 3, 4)), (2, 4), "a" * 12),
                ((2, ((0, 4), (3, 0), (3, 1), (1, 3), (4, 2)), (1,)), (0, 1, 2, 3, 4), "aabbbabbbababbbaa"),
                ((2, ((1, 3), (4, 3), (2, 0), (3, 2), (0, 4)), (1, 4)), (1, 2, 3, 4), "aababaababaabbaa"),
                ((3, ((4, 4, 4), (4, 1, 2), (3, 2, 4), (2, 4, 3), (1, 4, 1)), (0, 3)), (1, 2, 3), "aabbabcabaca")):
            told = self.check(machine, cut)
            self.assertEqual(told, plain.double_word(machine, cut, 100000))
            if word is not None:
                self.assertEqual(told, word)


class Refusals(unittest.TestCase):
    def test_no_machine_and_no_cut(self):
        machine = (2, ((0, 1), (1, 1)), (1,))
        for value in plain.any_values():
            with self.assertRaises(NoMachine):
                closed_cuts(value)
            for asked in (widened, double_word):
                with self.assertRaises(NoMachine):
                    asked(value, (0,))
                with self.assertRaises(NoCut):
                    asked(machine, value)

    def test_more_than_five_standings(self):
        for machine in (plain.ring(6, (0,)), plain.row(6, (5,), 2), plain.ring(32, (3,), 3)):
            for asked in (closed_cuts, lambda told: widened(told, (0,)), lambda told: double_word(told, (5,))):
                with self.assertRaises(TooMany) as error:
                    asked(machine)
                self.assertEqual(error.exception.limit, 5)


if __name__ == "__main__":
    unittest.main()
