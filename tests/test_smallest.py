"""Points 5 and 6: parting words and smallest machines."""

import random
import unittest

from seamlots.machines import is_machine
from seamlots.smallest import parting_word, smallest, smallest_of
from seamlots.wrongs import NoMachine, NotAlike, TooMany
from tests import plain


def some_machines(seed, most, times):
    rng = random.Random(seed)
    return [plain.some_machine(rng, letters, many) for letters in (1, 2, 3) for many in range(1, most + 1)
            for _ in range(times)]


def with_bits(bits):
    """The cycle of so many standings that takes as many a's as are the places of the ones."""
    return 1, tuple(((at + 1) % len(bits),) for at in range(len(bits))), tuple(
        at for at, bit in enumerate(bits) if bit)


def late_parting(one, other):
    """Two cycles of such lengths, with no common divisor, that agree for as many a's as they can."""
    kinds = list(range(one + other - 2))
    for at in range(len(kinds)):
        for step in (one, other):
            if at + step < len(kinds):
                kept, gone = kinds[at], kinds[at + step]
                kinds = [kept if kind == gone else kind for kind in kinds]
    bits = [kind == kinds[0] for kind in kinds]
    return with_bits(bits[:one]), with_bits(bits[:other])


class PartingWord(unittest.TestCase):
    def check(self, one, other):
        told = parting_word(one, other)
        self.assertEqual(parting_word(other, one), told)
        self.assertEqual(told, plain.parting_word(one, other))
        for word in plain.words(one[0], {1: 64, 2: 6, 3: 4}[one[0]]):
            parts = plain.takes(one, word) != plain.takes(other, word)
            if told is None or plain.less(word, told):
                self.assertFalse(parts, (one, other, word))
            elif word == told:
                self.assertTrue(parts)
        if told is not None:
            self.assertNotEqual(plain.takes(one, told), plain.takes(other, told))
        return told

    def test_some_two_machines(self):
        for one, other in zip(some_machines(1, 12, 4), some_machines(2, 12, 4)):
            self.check(one, other)

    def test_none_for_a_machine_and_itself(self):
        for machine in some_machines(3, 12, 2):
            self.assertIsNone(self.check(machine, machine))

    def test_none_for_a_machine_written_otherwise(self):
        rng = random.Random(4)
        for machine in some_machines(5, 12, 2):
            other = plain.doubled(rng, machine)
            self.assertIsNone(self.check(machine, other))
            other = plain.renumbered(rng, plain.with_unreached(rng, other))
            self.assertIsNone(self.check(machine, other))

    def test_other_ends_at_one_standing(self):
        rng = random.Random(6)
        told = []
        for machine in some_machines(7, 12, 3):
            standing = rng.randrange(len(machine[1]))
            other = plain.with_other_end(machine, standing)
            told.append(self.check(machine, plain.renumbered(rng, other)))
            reached = plain.walked(machine[0], 0, lambda at, letter: plain.led(machine, at, letter))
            self.assertEqual(told[-1], reached.get(standing))
        self.assertIn(None, told)
        self.assertIn("", told)
        self.assertGreater(max(len(word or "") for word in told), 3)

    def test_all_machines_of_two_standings(self):
        machines = list(plain.all_machines(1, 2)) + list(plain.all_machines(1, 1))
        for one in machines:
            for other in machines:
                self.check(one, other)

    def test_the_empty_word_parts(self):
        self.assertEqual(self.check((2, ((0, 0),), ()), (2, ((0, 0),), (0,))), "")

    def test_the_shorter_word_is_less(self):
        # 'aa' and 'b' both part the two machines.
        one = (2, ((1, 3), (2, 4), (4, 4), (4, 4), (4, 4)), (2, 3))
        self.assertEqual(self.check(one, (2, ((0, 0),), ())), "b")

    def test_of_two_with_as_many_letters_the_one_that_python_finds_less(self):
        # 'ab', 'ba' and 'cc' part the two machines.
        one = (3, ((1, 2, 3), (5, 4, 5), (4, 5, 5), (5, 5, 4), (5, 5, 5), (5, 5, 5)), (4,))
        self.assertEqual(self.check(one, (3, ((0, 0, 0),), ())), "ab")
        one = (3, ((1, 2, 3), (5, 5, 5), (5, 5, 4), (5, 4, 5), (5, 5, 5), (5, 5, 5)), (4,))
        self.assertEqual(self.check(one, (3, ((0, 0, 0),), ())), "bc")

    def test_long_parting_words(self):
        for one, other in ((31, 32), (29, 32), (3, 5), (2, 3)):
            self.assertEqual(self.check(*late_parting(one, other)), "a" * (one + other - 2))

    def test_32_standings(self):
        rng = random.Random(8)
        for letters in (1, 2, 3):
            one = plain.some_machine(rng, letters, 32)
            self.assertIsNone(self.check(one, plain.renumbered(rng, one)))
            for _ in range(3):
                self.check(one, plain.renumbered(rng, plain.with_other_end(one, rng.randrange(32))))
            self.check(one, plain.some_machine(rng, letters, 32))

    def test_refusals(self):
        machine = (2, ((0, 1), (1, 1)), (1,))
        for value in plain.any_values():
            for other in (machine, (1, ((0,),), ()), value, None):
                with self.assertRaises(NoMachine):
                    parting_word(value, other)
                with self.assertRaises(NoMachine):
                    parting_word(other, value)
        for letters in (1, 3):
            other = (letters, ((0,) * letters,), (0,))
            for asked in ((machine, other), (other, machine)):
                with self.assertRaises(NotAlike):
                    parting_word(*asked)


class Smallest(unittest.TestCase):
    def check(self, machine):
        told = smallest(machine)
        self.assertTrue(is_machine(told))
        self.assertIs(type(told), tuple)
        self.assertEqual(told[0], machine[0])
        self.assertIsNone(plain.parting_word(machine, told))
        for word in plain.words(machine[0], {1: 16, 2: 5, 3: 3}[machine[0]]):
            self.assertEqual(plain.takes(told, word), plain.takes(machine, word))
        self.assertTrue(plain.is_smallest(told), told)
        self.assertEqual(smallest(told), told)
        return told

    def test_machines_of_one_to_fourteen_standings(self):
        for machine in some_machines(11, 14, 5):
            self.check(machine)

    def test_all_small_machines(self):
        for letters, many in ((1, 1), (1, 2), (1, 3), (2, 1), (2, 2), (3, 1)):
            for machine in plain.all_machines(letters, many):
                self.check(machine)

    def test_machines_written_otherwise_have_one_smallest_machine(self):
        rng = random.Random(12)
        for machine in some_machines(13, 14, 2):
            told = self.check(machine)
            other = plain.doubled(rng, machine)
            self.assertEqual(self.check(other), told)
            other = plain.renumbered(rng, plain.with_unreached(rng, plain.doubled(rng, other)))
            self.assertEqual(self.check(other), told)

    def test_equal_exactly_if_the_same_words_are_taken(self):
        rng = random.Random(14)
        told = {True: 0, False: 0}
        for machine in some_machines(15, 8, 4):
            others = [plain.with_other_end(plain.doubled(rng, machine), rng.randrange(len(machine[1]))),
                      plain.some_machine(rng, machine[0], 2), plain.with_unreached(rng, machine)]
            for other in others:
                same = plain.parting_word(machine, other) is None
                told[same] += 1
                self.assertEqual(smallest(machine) == smallest(other), same)
        self.assertGreater(min(told.values()), 20)

    def test_standings_come_in_the_order_of_their_least_words(self):
        # The words to the standings are '', 'a', 'b', 'aa' and 'ab', however they are numbered.
        machine = (2, ((4, 2), (3, 3), (3, 3), (3, 3), (1, 0)), (1, 2))
        self.assertEqual(self.check(machine), (2, ((1, 2), (2, 0), (3, 3), (3, 3)), (2,)))

    def test_no_words_and_all_words(self):
        for letters in (1, 2, 3):
            for many in (1, 2, 7, 32):
                moves = tuple((at,) * letters for at in list(range(1, many)) + [0])
                self.assertEqual(smallest((letters, moves, ())), (letters, ((0,) * letters,), ()))
                self.assertEqual(smallest((letters, moves, tuple(range(many)))), (letters, ((0,) * letters,), (0,)))

    def test_32_standings(self):
        rng = random.Random(16)
        for bits in ([0] * 31 + [1], [1] + [0] * 31, [1, 0, 0, 0] * 7 + [1, 1, 0, 0]):
            self.assertEqual(self.check(with_bits(bits)), with_bits(bits))
            self.assertEqual(self.check(plain.renumbered(rng, with_bits(bits))), with_bits(bits))
        self.assertEqual(self.check(with_bits([1, 0, 0, 1] * 8)), with_bits([1, 0, 0, 1]))
        for letters in (1, 2, 3):
            for _ in range(4):
                self.check(plain.some_machine(rng, letters, 32))
        # The last standing can be told from the one before it only by as many letters as there are standings.
        chain = (1, tuple((min(at + 1, 31),) for at in range(32)), (31,))
        self.assertEqual(self.check(chain), chain)

    def test_refusals(self):
        for value in plain.any_values():
            with self.assertRaises(NoMachine):
                smallest(value)


class GreatMachines(unittest.TestCase):
    """Machines of twenty to thirty-two standings: drawn ones, rings, rows, and rows with a standing doubled."""

    SIZES = (20, 23, 27, 31, 32)

    def check_smallest(self, machine):
        told = smallest(machine)
        self.assertTrue(plain.is_machine(told))
        self.assertTrue(plain.is_smallest(told))
        self.assertIsNone(plain.parting_word(machine, told))
        self.assertIsNone(parting_word(machine, told))
        return told

    def doubled_row(self, many, ends, at, letters):
        """A row of one standing fewer, and the one at that place doubled: the first letter leads to the other one."""
        _, moves, _ = plain.row(many - 1, (), letters)
        twin = many - 1
        moves = list(moves) + [moves[at]]
        moves[at - 1] = (twin,) + moves[at - 1][1:]
        return letters, tuple(moves), tuple(ends) + ((twin,) if at in ends else ())

    def test_drawn_machines(self):
        rng = random.Random(21)
        parted = 0
        for letters in (1, 2, 3):
            for many in self.SIZES:
                for ends in (1, 2, many // 2, many - 1):
                    chosen = tuple(sorted(rng.sample(range(many), ends)))
                    machine = plain.some_machine(rng, letters, many)[:2] + (chosen,)
                    told = self.check_smallest(machine)
                    self.assertEqual(smallest(plain.renumbered(rng, machine)), told)
                    self.assertIsNone(parting_word(machine, plain.renumbered(rng, machine)))
                    for other in (plain.with_other_end(machine, rng.randrange(many)),
                                  plain.some_machine(rng, letters, rng.choice(self.SIZES)),
                                  plain.row(many, (many - 1,), letters), plain.ring(many, (many - 1,), letters)):
                        least = plain.parting_word(machine, other)
                        parted += least is not None
                        self.assertEqual(parting_word(machine, other), least)
                        self.assertEqual(parting_word(other, machine), least)
                        self.assertEqual(smallest(other) == told, least is None)
        self.assertGreater(parted, 150)

    def test_rings(self):
        for letters in (1, 2, 3):
            for many in self.SIZES:
                for at in (0, 1, many - 1):
                    machine = plain.ring(many, (at,), letters)
                    self.assertEqual(self.check_smallest(machine), machine)
                    self.assertIsNone(parting_word(machine, machine))
                    self.assertEqual(parting_word(machine, plain.ring(many, (), letters)), "a" * at)
                    self.assertEqual(parting_word(machine, plain.row(many, (at,), letters)),
                                     "a" * (at + many if at < many - 1 else many))
                machine = plain.ring(many, range(0, many, 2), letters)
                self.assertEqual(smallest(machine), plain.ring(2, (0,), letters) if many % 2 == 0 else machine)
        self.assertEqual(parting_word(plain.ring(31, (0,)), plain.ring(32, (0,))), "a" * 31)
        self.assertEqual(parting_word(plain.ring(20, (19,), 2), plain.ring(32, (19,), 2)), "a" * 39)
        self.assertEqual(smallest(plain.ring(32, range(3, 32, 4), 3)), plain.ring(4, (3,), 3))
        self.assertEqual(smallest(plain.ring(30, range(0, 30, 5))), plain.ring(5, (0,)))

    def test_rows(self):
        for letters in (1, 2, 3):
            for many in self.SIZES:
                last = plain.row(many, (many - 1,), letters)
                self.assertEqual(self.check_smallest(last), last)
                self.assertEqual(parting_word(last, plain.row(many - 1, (many - 2,), letters)), "a" * (many - 2))
                just = plain.row(many, (many - 2,), letters)
                self.assertEqual(self.check_smallest(just), just)
                self.assertEqual(parting_word(last, just), "a" * (many - 2))
                self.assertEqual(smallest(plain.row(many, (3,), letters)), plain.row(5, (3,), letters))
                self.assertEqual(smallest(plain.row(many, range(many), letters)), plain.row(1, (0,), letters))
                self.assertEqual(smallest(plain.row(many, range(7, many), letters)), plain.row(8, (7,), letters))

    def test_rows_with_a_standing_doubled(self):
        for letters in (1, 2, 3):
            for many in self.SIZES:
                for at in (1, 2, many // 2, many - 3, many - 2):
                    for ends in ((many - 2,), (many - 3,), (at,), (0, at), range(0, many - 1, 2)):
                        ends = tuple(ends)
                        row = plain.row(many - 1, ends, letters)
                        machine = self.doubled_row(many, ends, at, letters)
                        self.assertIsNone(parting_word(machine, row))
                        self.assertEqual(self.check_smallest(machine), smallest(row))
                        # With just one of the two standings an end, the two are parted by the word that leads there.
                        other = plain.with_other_end(machine, many - 1)
                        self.assertEqual(parting_word(machine, other), "a" * at)
                        self.check_smallest(other)

    def test_32_standings_in_the_order_of_their_least_words(self):
        rng = random.Random(22)
        for machine in (plain.row(32, (31,), 2), plain.ring(32, (31,), 3)):
            for _ in range(5):
                self.assertEqual(smallest(plain.renumbered(rng, machine)), machine)
        # A tree of all words of at most three letters, of two kinds, and what is behind them.
        moves = tuple((2 * at + 1, 2 * at + 2) for at in range(15)) + tuple(
            (31, (at + 1) if at < 30 else 15) for at in range(15, 31)) + ((31, 31),)
        tree = 2, moves, (15, 31)
        self.assertEqual(self.check_smallest(tree), tree)
        for _ in range(5):
            self.assertEqual(smallest(plain.renumbered(rng, tree)), tree)


class SmallestOf(unittest.TestCase):
    """The smallest machine of a lot may have more standings than a machine can have."""

    def chain(self, last, ends):
        return smallest_of(1, 0, lambda at, number: min(at + 1, last), lambda at: at in ends)

    def test_32_standings_are_told_and_33_refused(self):
        self.assertEqual(self.chain(31, (31,)), (1, tuple((min(at + 1, 31),) for at in range(32)), (31,)))
        for last in (32, 33, 40, 300):
            with self.assertRaises(TooMany) as told:
                self.chain(last, (last,))
            self.assertEqual(told.exception.limit, 32)

    def test_only_the_smallest_machine_counts(self):
        self.assertEqual(self.chain(300, ()), (1, ((0,),), ()))
        self.assertEqual(self.chain(300, range(301)), (1, ((0,),), (0,)))
        self.assertEqual(smallest_of(1, 0, lambda at, number: (at + 1) % 64, lambda at: at % 32 == 31),
                         with_bits([0] * 31 + [1]))
        with self.assertRaises(TooMany):
            smallest_of(1, 0, lambda at, number: (at + 1) % 66, lambda at: at % 33 == 32)


if __name__ == "__main__":
    unittest.main()
