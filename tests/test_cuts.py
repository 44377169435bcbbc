"""Points 7 to 9: cuts, their lots, and the words that can't be cut."""

import random
import unittest

from seamlots.cuts import cuttings, failing_word, first_lot, is_cut, is_idle, second_lot
from seamlots.machines import is_machine
from seamlots.wrongs import NoCut, NoMachine, NoWord, TooMany
from tests import plain

MACHINES = plain.cut_machines()
AND_SIX = (1, ((1,), (2,), (3,), (4,), (5,), (5,)), (1,))


def short_words(machine):
    return plain.words(machine[0], {1: 9, 2: 5, 3: 3}[machine[0]])


class Cuts(unittest.TestCase):
    def test_all_cuts(self):
        for machine in MACHINES:
            for cut in plain.cuts(machine):
                self.assertIs(is_cut(machine, cut), True)

    def test_values_near_cuts(self):
        rng = random.Random(1)
        told = {True: 0, False: 0}
        for machine in MACHINES:
            for cut in plain.cuts(machine):
                near = plain.changed(rng, cut)
                for value in (near, plain.changed(rng, near), cut[::-1], list(cut), cut + cut[-1:], cut[:1] + cut):
                    told[plain.is_cut(machine, value)] += 1
                    self.assertIs(is_cut(machine, value), plain.is_cut(machine, value), (machine, value))
        self.assertGreater(min(told.values()), 100)

    def test_told_values(self):
        for many in range(1, 6):
            machine = (1, ((0,),) * many, ())
            self.assertIs(is_cut(machine, tuple(range(many))), True)
            self.assertIs(is_cut(machine, (many - 1,)), True)
            for value in ((), (many,), (-1,), (0, many), (0, 0), [0], (False,), (0, True), tuple(range(many + 1)), 0,
                          True, None, "0", ("0",), ((0,),)):
                self.assertIs(is_cut(machine, value), False)
        self.assertIs(is_cut((1, ((0,), (0,)), ()), (1, 0)), False)
        self.assertIs(is_cut((1, ((0,), (0,)), ()), (False, True)), False)

    def test_other_values(self):
        machine = (2, ((0, 1), (1, 1)), (1,))
        for value in plain.any_values():
            self.assertIs(is_cut(machine, value), False)
            for told in (lambda: first_lot(machine, value), lambda: second_lot(machine, value),
                         lambda: is_idle(machine, value), lambda: cuttings(machine, value, "a"),
                         lambda: failing_word(machine, value)):
                with self.assertRaises(NoCut):
                    told()
            with self.assertRaises(NoWord):
                cuttings(machine, (0,), value)

    def test_no_machine(self):
        for value in plain.any_values():
            for told in (lambda: is_cut(value, (0,)), lambda: first_lot(value, (0,)), lambda: second_lot(value, (0,)),
                         lambda: is_idle(value, (0,)), lambda: cuttings(value, (0,), "a"),
                         lambda: failing_word(value, (0,))):
                with self.assertRaises(NoMachine):
                    told()

    def test_more_than_five_standings(self):
        for machine in (AND_SIX, (2, ((0, 0),) * 32, (31,))):
            for told in (lambda: is_cut(machine, (0,)), lambda: is_cut(machine, None), lambda: is_cut(machine, (5,)),
                         lambda: first_lot(machine, (0,)), lambda: second_lot(machine, (0,)),
                         lambda: is_idle(machine, (5,)), lambda: cuttings(machine, (0,), "a"),
                         lambda: failing_word(machine, (0, 1))):
                with self.assertRaises(TooMany) as error:
                    told()
                self.assertEqual(error.exception.limit, 5)


class Lots(unittest.TestCase):
    def check(self, told, machine, start, step, is_end):
        """told is the smallest machine of the words that lead from the start to an end."""
        self.assertTrue(is_machine(told))
        self.assertEqual(told[0], machine[0])
        self.assertTrue(plain.is_smallest(told), told)
        both = plain.walked(
            machine[0], (0, start), lambda pair, letter: (plain.led(told, pair[0], letter), step(pair[1], letter)))
        for standing, state in both:
            self.assertEqual(standing in told[2], is_end(state))

    def test_first_lots(self):
        for machine in MACHINES:
            for cut in plain.cuts(machine):
                told = first_lot(machine, cut)
                for word in short_words(machine):
                    self.assertEqual(plain.takes(told, word), plain.in_first(machine, cut, word))
                self.check(told, machine, 0, lambda standing, letter: plain.led(machine, standing, letter),
                           lambda standing: standing in cut)

    def test_second_lots(self):
        for machine in MACHINES:
            for cut in plain.cuts(machine):
                told = second_lot(machine, cut)
                for word in short_words(machine):
                    self.assertEqual(plain.takes(told, word), plain.in_second(machine, cut, word))
                self.check(told, machine, cut,
                           lambda run, letter: tuple(plain.led(machine, standing, letter) for standing in run),
                           lambda run: set(run) <= set(machine[2]))

    def test_a_lot_without_words(self):
        machine = (2, ((0, 0), (1, 1)), (0,))
        self.assertEqual(first_lot(machine, (1,)), (2, ((0, 0),), ()))
        self.assertEqual(second_lot(machine, (0, 1)), (2, ((0, 0),), ()))

    def test_one_word_behind_the_other_is_taken_and_can_be_cut_there(self):
        told = 0
        for machine in MACHINES[::3]:
            for cut in plain.cuts(machine):
                firsts = [word for word in short_words(machine) if plain.takes(first_lot(machine, cut), word)][:8]
                seconds = [word for word in short_words(machine) if plain.takes(second_lot(machine, cut), word)][:8]
                for first in firsts:
                    for second in seconds:
                        told += 1
                        self.assertTrue(plain.takes(machine, first + second))
                        self.assertIn(len(first), cuttings(machine, cut, first + second))
        self.assertGreater(told, 1000)


class Idle(unittest.TestCase):
    def test_all_cuts(self):
        told = {True: 0, False: 0}
        for machine in MACHINES:
            for cut in plain.cuts(machine):
                idle = plain.is_idle(machine, cut)
                told[idle] += 1
                self.assertIs(is_idle(machine, cut), idle, (machine, cut))
                lots = [[word for word in short_words(machine) if word and in_lot(machine, cut, word)]
                        for in_lot in (plain.in_first, plain.in_second)]
                if all(lots):
                    self.assertIs(is_idle(machine, cut), False)
        self.assertGreater(min(told.values()), 100)

    def test_lots_of_the_empty_word_or_of_none(self):
        machine = (1, ((1,), (2,), (2,)), (1,))
        self.assertIs(is_idle(machine, (0,)), True)
        self.assertIs(is_idle(machine, (1,)), True)
        self.assertIs(is_idle(machine, (2,)), True)
        # The first lot of (0,) has words besides the empty one here, and so has the second.
        self.assertIs(is_idle((1, ((1,), (0,)), (0,)), (0,)), False)

    def test_a_second_lot_with_long_words_only(self):
        # From both standings of the cut together only words of three letters or more lead to ends.
        machine = (1, ((1,), (2,), (3,), (4,), (4,)), (4,))
        self.assertIs(is_idle(machine, (1, 2)), False)
        self.assertIs(is_idle((1, machine[1], (3,)), (1, 2)), True)


class Cuttings(unittest.TestCase):
    def test_short_words(self):
        many = 0
        for machine in MACHINES:
            for cut in plain.cuts(machine):
                for word in short_words(machine):
                    told = cuttings(machine, cut, word)
                    self.assertIs(type(told), list)
                    self.assertEqual(told, plain.cuttings(machine, cut, word))
                    many += len(told) > 1
        self.assertGreater(many, 1000)

    def test_longer_words(self):
        rng = random.Random(2)
        for machine in MACHINES[::5]:
            for cut in plain.cuts(machine):
                word = "".join(rng.choice("abc"[:machine[0]]) for _ in range(30))
                self.assertEqual(cuttings(machine, cut, word), plain.cuttings(machine, cut, word))

    def test_very_long_words(self):
        even = (1, ((1,), (0,)), (0,))
        self.assertEqual(cuttings(even, (0,), "a" * 100000), list(range(0, 100001, 2)))
        self.assertEqual(cuttings(even, (1,), "a" * 100000), list(range(1, 100001, 2)))
        self.assertEqual(cuttings(even, (0, 1), "a" * 100000), [])
        self.assertEqual(cuttings(even, (0,), "a" * 100001), [])

    def test_both_sides_and_the_empty_word(self):
        machine = (1, ((1,), (0,)), (0,))
        self.assertEqual(cuttings(machine, (0,), ""), [0])
        self.assertEqual(cuttings(machine, (1,), ""), [])
        self.assertEqual(cuttings(machine, (0,), "aa"), [0, 2])
        self.assertEqual(cuttings(machine, (1,), "aa"), [1])

    def test_words_that_are_not_taken(self):
        for machine in MACHINES[::7]:
            for cut in plain.cuts(machine):
                for word in short_words(machine):
                    if not plain.takes(machine, word):
                        self.assertEqual(cuttings(machine, cut, word), [])


class FailingWord(unittest.TestCase):
    def check(self, machine, cut):
        told = failing_word(machine, cut)
        for word in short_words(machine):
            failing = plain.takes(machine, word) and not plain.cuttings(machine, cut, word)
            if told is None or plain.less(word, told):
                self.assertFalse(failing, (machine, cut, word))
            elif word == told:
                self.assertTrue(failing)
        if told is not None:
            self.assertIs(type(told), str)
            self.assertTrue(plain.takes(machine, told))
            self.assertEqual(plain.cuttings(machine, cut, told), [])
            self.assertEqual(cuttings(machine, cut, told), [])
        return told

    def test_all_cuts(self):
        lengths = {}
        for machine in MACHINES:
            for cut in plain.cuts(machine):
                told = self.check(machine, cut)
                length = -1 if told is None else len(told)
                lengths[length] = lengths.get(length, 0) + 1
        self.assertGreater(min(lengths[length] for length in (-1, 0, 1, 2, 3)), 20)

    def test_held_against_all_sets_behind_all_places(self):
        checked = 0
        for machine in MACHINES:
            for cut in plain.cuts(machine):
                try:
                    least = plain.failing_word(machine, cut, 400)
                except plain.TooGreat:
                    continue
                checked += 1
                self.assertEqual(failing_word(machine, cut), least, (machine, cut))
        self.assertGreater(checked, 2000)

    def test_a_machine_without_words(self):
        for machine in ((1, ((0,),), ()), (2, ((1, 0), (1, 1)), ()), (1, ((0,), (1,)), (1,))):
            for cut in plain.cuts(machine):
                self.assertIsNone(self.check(machine, cut))

    def test_the_empty_word_fails(self):
        machine = (1, ((1,), (0,)), (0,))
        self.assertEqual(self.check(machine, (1,)), "")
        self.assertEqual(self.check(machine, (0, 1)), "")
        self.assertIsNone(self.check(machine, (0,)))

    def test_the_least_of_several(self):
        # 'ac' and 'b' are taken, and neither of them can be cut by the first two cuts.
        machine = (3, ((1, 2, 3), (3, 3, 2), (3, 3, 3), (3, 3, 3)), (2,))
        self.assertEqual(self.check(machine, (3,)), "b")
        self.assertEqual(self.check(machine, (1,)), "b")
        self.assertEqual(self.check(machine, (0, 1)), "b")
        # Of the taken words only 'ab', 'ba' and 'cc' have two letters, and none has fewer.
        machine = (3, ((1, 2, 3), (0, 4, 0), (4, 0, 0), (0, 0, 4), (4, 4, 4)), (4,))
        for cut, word in (((1,), "ba"), ((2,), "ab"), ((3,), "ab"), ((1, 2), "ab"), ((0,), None), ((4,), None)):
            self.assertEqual(self.check(machine, cut), word)

    def test_long_failing_words(self):
        self.assertEqual(self.check((1, ((1,), (2,), (3,), (4,), (4,)), (3,)), (4,)), "aaa")
        self.assertEqual(self.check((1, ((3,), (2,), (1,), (2,)), (0, 2, 3)), (0, 3)), "aaaa")
        machine = (3, ((4, 2, 0), (0, 1, 3), (4, 2, 1), (4, 4, 2), (3, 2, 4)), (1, 2, 3, 4))
        self.assertEqual(self.check(machine, (0, 4)), "aaccbca")
        machine = (2, ((2, 0), (1, 4), (3, 0), (1, 2), (0, 3)), (0, 3, 4))
        self.assertEqual(self.check(machine, (0, 3)), "aabaabbaab")
        self.assertEqual([word for word in plain.words(2, 10) if plain.takes(machine, word)
                          and not plain.cuttings(machine, (0, 3), word)][0], "aabaabbaab")


if __name__ == "__main__":
    unittest.main()
