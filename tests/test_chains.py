"""Point 21: ways, chains of cuts, and the words that they do not make."""

import itertools
import random
import unittest

from seamlots.chains import failing_chain, is_chain, way_of
from seamlots.cuts import failing_word, first_lot, second_lot
from seamlots.threes import failing_three, middle_lot
from seamlots.wrongs import NoChain, NoCut, NoMachine, TooMany
from tests import plain, plain_papers

MACHINES = [machine for machine in plain.lot_machines() if len(machine[1]) <= 3]


def few_standings():
    rng = random.Random(181)
    drawn = [draw(rng, letters, many) for letters in (1, 2, 3) for many in (2, 3) for draw in (
        plain.some_machine, plain.one_way) for _ in range(10)]
    # Rows and rings, for which long chains make all words, or fail late.
    rings = [plain.ring(many, ends, letters) for letters in (1, 2) for many in (1, 2, 3)
             for ends in ((0,), (many - 1,))]
    rows = [plain.row(many, ends, letters) for letters in (1, 2) for many in (2, 3)
            for ends in ((many - 1,), (0, many - 1))]
    return MACHINES + drawn + rings + rows


FEW = few_standings()


def drawn_chains(seed, times):
    """Machines of one to three standings, each with drawn chains of one to four cuts."""
    rng = random.Random(seed)
    found = []
    for machine in FEW:
        cuts = plain.cuts(machine)
        # Cuts that split make chains that make all words more often.
        splitting = [cut for cut in cuts if failing_word(machine, cut) is None] or cuts
        for many in (1, 2, 3, 4):
            for at in range(times):
                found.append((machine, tuple(rng.choice(splitting if at % 2 else cuts) for _ in range(many))))
    return found


CHAINS = drawn_chains(182, 6)


class Ways(unittest.TestCase):
    def check(self, machine, cut, later):
        told = way_of(machine, cut, later)
        self.assertTrue(plain.is_machine(told))
        self.assertTrue(plain.is_smallest(told))
        runs = plain.walked(machine[0], (0, cut), lambda pair, letter: (
            plain.led(told, pair[0], letter), tuple(plain.led(machine, standing, letter) for standing in pair[1])))
        for own, run in runs:
            self.assertEqual(own in told[2], set(run) <= set(later), (machine, cut, later))
        return told

    def test_held_against_all_words(self):
        rng = random.Random(183)
        many = set()
        for machine in plain.lot_machines():
            pairs = list(itertools.product(plain.cuts(machine), repeat=2))
            for cut, later in rng.sample(pairs, min(len(pairs), 12)):
                many.add(len(self.check(machine, cut, later)[1]))
        self.assertLessEqual({1, 2, 3, 4, 5, 6, 7}, many)

    def test_lots_are_ways(self):
        for machine in plain.lot_machines():
            for cut in plain.cuts(machine):
                self.assertEqual(way_of(machine, (0,), cut), first_lot(machine, cut))
                if machine[2]:
                    self.assertEqual(way_of(machine, cut, machine[2]), second_lot(machine, cut))
        for machine in FEW:
            for cut, later in itertools.product(plain.cuts(machine), repeat=2):
                self.assertEqual(way_of(machine, cut, later), middle_lot(machine, cut, later))

    def test_great_ways(self):
        most = 0
        rng = random.Random(184)
        for _ in range(150):
            machine = plain.some_machine(rng, 3, 5)
            told = way_of(machine, (0, 1, 2, 3, 4), rng.choice([cut for cut in plain.cuts(machine) if len(cut) < 5]))
            most = max(most, len(told[1]))
        self.assertGreater(most, 12)


class Chains(unittest.TestCase):
    def check(self, machine, value):
        right = plain_papers.is_chain(machine, value)
        self.assertIs(is_chain(machine, value), right, (machine, value))
        return right

    def test_chains_of_one_to_four_cuts(self):
        for machine, chain in CHAINS:
            self.assertIs(self.check(machine, chain), True)
            self.assertIs(self.check(machine, chain + chain), len(chain) <= 2)
            self.assertIs(self.check(machine, list(chain)), False)
        cut = (0,)
        for many in range(8):
            self.assertIs(self.check(FEW[0], (cut,) * many), 1 <= many <= 4)
        self.assertIs(self.check(FEW[0], cut), False)
        self.assertIs(self.check(FEW[0], (cut, [0])), False)

    def test_values_near_chains(self):
        rng = random.Random(185)
        found = {True: 0, False: 0}
        for machine, chain in CHAINS:
            near = plain.changed(rng, chain)
            for value in (near, plain.changed(rng, near), chain + (rng.choice(plain.cuts(machine)),), chain[1:],
                          plain.put(chain, (0,), (len(machine[1]),)), chain + ((),)):
                found[self.check(machine, value)] += 1
        self.assertGreater(min(found.values()), 500)

    def test_chains_of_any_machine(self):
        rng = random.Random(186)
        for many in range(1, 33):
            for letters in (1, 2, 3):
                machine = plain.ring(many, (0,), letters)
                for _ in range(5):
                    cut = tuple(sorted(rng.sample(range(many), rng.randrange(1, many + 1))))
                    self.assertIs(self.check(machine, (cut, (many - 1,), cut)), True)
                    self.assertIs(self.check(machine, (cut, (many,))), False)
                    self.assertIs(self.check(machine, (cut, cut + (many,))), False)

    def test_other_values(self):
        for machine in (FEW[0], plain.ring(3, (0,), 2), plain.ring(32, (0,), 3)):
            for value in plain.any_values():
                self.check(machine, value)
                self.check(machine, (value,))
                self.check(machine, ((0,), value))


class FailingChain(unittest.TestCase):
    def check(self, machine, chain):
        """Held against short words; tells whether all words are made."""
        told = failing_chain(machine, chain)
        if told is not None:
            self.assertIs(type(told), str)
            self.assertTrue(plain.takes(machine, told))
            self.assertFalse(plain_papers.is_made(machine, chain, told), (machine, chain, told))
        for word in plain.short_words(machine):
            if told is not None and not plain.less(word, told):
                break
            if plain.takes(machine, word):
                self.assertTrue(plain_papers.is_made(machine, chain, word), (machine, chain, word, told))
        return told

    def test_held_against_short_words(self):
        lengths = {}
        rng = random.Random(187)
        for machine, chain in rng.sample(CHAINS, 900):
            told = self.check(machine, chain)
            kind = len(chain), -1 if told is None else min(len(told), 3)
            lengths[kind] = lengths.get(kind, 0) + 1
        for many in (1, 2, 3, 4):
            self.assertGreater(min(lengths[many, -1], lengths[many, 0]), 15)
        self.assertGreater(min(lengths[many, 1] for many in (2, 3, 4)), 15)
        self.assertGreater(sum(lengths.get((many, 2), 0) for many in (1, 2, 3, 4)), 15)

    def test_held_against_all_sets(self):
        checked = {True: 0, False: 0}
        for machine, chain in CHAINS:
            try:
                least = plain_papers.failing_chain(machine, chain, 400)
            except plain.TooGreat:
                continue
            checked[least is None] += 1
            self.assertEqual(failing_chain(machine, chain), least, (machine, chain))
        self.assertGreater(min(checked.values()), 300)

    def test_all_chains_of_one_and_two_cuts(self):
        for machine in FEW:
            cuts = plain.cuts(machine)
            for cut in cuts:
                self.assertEqual(failing_chain(machine, (cut,)), failing_word(machine, cut))
            for pair in itertools.product(cuts, repeat=2):
                self.assertEqual(failing_chain(machine, pair), failing_three(machine, *pair))

    def test_a_chain_that_makes_all_words_makes_them_without_any_one_cut(self):
        found = {many: 0 for many in (1, 2, 3, 4)}
        for machine, chain in drawn_chains(188, 24):
            if failing_chain(machine, chain) is None:
                found[len(chain)] += 1
                for at in range(len(chain)):
                    if len(chain) > 1:
                        self.assertIsNone(failing_chain(machine, chain[:at] + chain[at + 1:]), (machine, chain))
        self.assertGreater(min(found.values()), 100)

    def test_told_chains(self):
        machine = plain.row(3, (2,))
        self.assertEqual(failing_chain(machine, ((1,), (2,))), None)
        self.assertEqual(self.check(machine, ((1,), (1,))), None)
        self.assertEqual(self.check(machine, ((0,), (1,), (1,), (2,))), None)
        self.assertEqual(self.check(machine, ((0,), (1,), (0,), (2,))), "aa")
        # The order of the cuts counts.
        blocks = (2, ((0, 1), (2, 1), (2, 2)), (0, 1))
        self.assertEqual(self.check(blocks, ((0,), (0, 1))), None)
        self.assertNotEqual(self.check(blocks, ((0, 1), (0,))), None)
        every = (3, ((0, 0, 0),), (0,))
        for many in (1, 2, 3, 4):
            self.assertIsNone(failing_chain(every, ((0,),) * many))
            self.assertIsNone(failing_chain((3, ((0, 0, 0),), ()), ((0,),) * many))
        # Four cuts make five lots, here each with one letter or more: all words of fewer letters fail.
        machine = plain.row(2, (1,))
        for many in (1, 2, 3, 4):
            self.assertEqual(self.check(machine, ((1,),) * many), None)
        self.assertEqual(self.check(plain.row(3, (1, 2)), ((1, 2),) * 4), None)

    def test_no_words(self):
        for machine, chain in CHAINS[::4]:
            self.assertIsNone(failing_chain(machine[:2] + ((),), chain))


class Refusals(unittest.TestCase):
    MACHINE = (2, ((0, 1), (1, 1)), (1,))

    def test_wrong_arguments(self):
        for value in plain.any_values():
            for asked, rest in ((way_of, ((0,), (0,))), (way_of, (None, None)), (is_chain, (None,)),
                                (is_chain, (((0,),),)), (failing_chain, (None,)), (failing_chain, (((0,),),))):
                with self.assertRaises(NoMachine):
                    asked(value, *rest)
            for other in ((0,), value):
                with self.assertRaises(NoCut):
                    way_of(self.MACHINE, value, other)
                with self.assertRaises(NoCut):
                    way_of(self.MACHINE, other, value)
            for chain in (value, (value,), ((0,), value), (value, (0,)), ((0,),) * 5, ((0,), (2,))):
                for machine in (self.MACHINE, plain.ring(4, (0,)), plain.ring(6, (0,)), plain.ring(32, (0,), 3)):
                    if not plain_papers.is_chain(machine, chain):
                        with self.assertRaises(NoChain):
                            failing_chain(machine, chain)

    def test_more_than_three_and_five_standings(self):
        for many in range(1, 33):
            for letters in (1, 2, 3):
                machine = plain.ring(many, (0,), letters)
                self.assertIs(is_chain(machine, ((many - 1,),)), True)
                for asked, rest, most in ((failing_chain, (((0,), (many - 1,)),), 3), (way_of, ((0,), (many - 1,)), 5)):
                    if many <= most:
                        asked(machine, *rest)
                    else:
                        with self.assertRaises(TooMany) as error:
                            asked(machine, *rest)
                        self.assertEqual(error.exception.limit, most)


if __name__ == "__main__":
    unittest.main()
