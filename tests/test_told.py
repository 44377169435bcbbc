"""Point 13: told factors, what they reach, their rest and their head, and the words that they lack."""

import random
import unittest

from seamlots.smallest import smallest
from seamlots.told import head_of, lacking_word, reached_by, rest_of
from seamlots.wrongs import NoMachine, NotAlike, TooMany
from tests import plain


def drawn_pairs():
    """Machines of one to five standings, each with a told factor of one to seven."""
    rng = random.Random(81)
    found = []
    for letters in (1, 2, 3):
        for many in range(1, 6):
            for own in range(1, 8):
                for _ in range(4):
                    draw = rng.choice((plain.some_machine, plain.one_way)) if many > 1 else plain.some_machine
                    found.append((draw(rng, letters, many), plain.some_machine(rng, letters, own)))
    # Factors that take few words reach few standings, so more is left of the machine.
    for machine in plain.WELL_KNOWN + plain.TOLD_MACHINES + plain.PRIMES:
        for own in range(2, 8):
            _, moves, ends = plain.one_way(rng, machine[0], own)
            found.append((machine, (machine[0], moves, ends[:1])))
    return found


def well_known_pairs():
    machines = plain.WELL_KNOWN + plain.TOLD_MACHINES + plain.PRIMES
    return [(machine, first) for machine in machines for first in machines if machine[0] == first[0]]


def with_great_factors():
    """Machines of one to five standings with rings, rows and drawn machines of twenty to thirty-two told to them."""
    rng = random.Random(82)
    found = []
    for letters in (1, 2, 3):
        for own in (20, 25, 31, 32):
            for _ in range(3):
                machine = plain.some_machine(rng, letters, rng.randrange(1, 6))
                ends = sorted(rng.sample(range(own), rng.randrange(1, 4)))
                found += [(machine, plain.ring(own, ends, letters)), (machine, plain.row(own, ends, letters)),
                          (machine, plain.some_machine(rng, letters, own)),
                          (machine, plain.some_machine(rng, letters, own)[:2] + (tuple(ends),))]
    rings = [plain.ring(many, ends) for many in range(1, 6) for ends in ((0,), (many - 1,), tuple(range(many)))]
    rows = [plain.row(many, ends) for many in range(1, 6) for ends in ((0,), (many - 1,), tuple(range(many)))]
    for machine in rings + rows:
        for own in (20, 30, 32):
            found += [(machine, plain.ring(own, (0,))), (machine, plain.ring(own, (3, own - 1))),
                      (machine, plain.row(own, (own - 1,))), (machine, plain.row(own, (own - 2,))),
                      (machine, plain.row(own, range(own)))]
    return found


PAIRS = drawn_pairs() + well_known_pairs()
GREAT_PAIRS = with_great_factors()
NO_WORDS = [(letters, ((0,) * letters,), ()) for letters in (1, 2, 3)] + [
    (1, ((1,), (0,)), ()), (2, ((0, 0), (1, 1)), (1,)), (3, ((1, 0, 0), (1, 1, 0), (0, 1, 2)), (2,)),
    plain.ring(32, ()), plain.row(32, (), 2), (2, ((0, 0),) * 7, (1, 2, 3, 4, 5, 6))]


def every(letters):
    return letters, ((0,) * letters,), (0,)


class Reached(unittest.TestCase):
    def test_held_against_all_pairs_of_standings(self):
        many = {}
        for machine, first in PAIRS + GREAT_PAIRS:
            told = reached_by(machine, first)
            self.assertIs(type(told), tuple)
            self.assertEqual(told, plain.reached_by(machine, first), (machine, first))
            many[len(told)] = many.get(len(told), 0) + 1
        self.assertGreater(min(many[length] for length in range(6)), 5)

    def test_held_against_short_words(self):
        for machine, first in PAIRS:
            told = reached_by(machine, first)
            for word in plain.short_words(first):
                if plain.takes(first, word):
                    self.assertIn(plain.led(machine, 0, word), told)

    def test_told_machines(self):
        for many in (2, 3, 4, 5):
            machine = plain.ring(many, (0,))
            self.assertEqual(reached_by(machine, plain.ring(many, (1,))), (1,))
            self.assertEqual(reached_by(machine, plain.ring(29, (0,))), tuple(range(many)))
            self.assertEqual(reached_by(machine, plain.row(32, (31,))), tuple(range(many)))
            self.assertEqual(reached_by(machine, plain.row(32, (30,))), (30 % many,))
        self.assertEqual(reached_by(plain.ring(4, (0,)), plain.ring(30, (1, 2))), (0, 1, 2, 3))
        self.assertEqual(reached_by(plain.ring(4, (0,)), plain.ring(32, (1, 2))), (1, 2))


class Rest(unittest.TestCase):
    def check(self, machine, first):
        told = rest_of(machine, first)
        self.assertTrue(plain.is_machine(told))
        self.assertTrue(plain.is_smallest(told))
        reached = plain.reached_by(machine, first)
        runs = plain.walked(machine[0], (0, reached), lambda pair, letter: (
            plain.led(told, pair[0], letter), tuple(plain.led(machine, standing, letter) for standing in pair[1])))
        for own, run in runs:
            self.assertEqual(own in told[2], set(run) <= set(machine[2]), (machine, first))
        return told

    def test_held_against_all_words(self):
        many = set()
        for machine, first in PAIRS + GREAT_PAIRS:
            many.add(len(self.check(machine, first)[1]))
        self.assertLessEqual({1, 2, 3, 4, 5, 6}, many)

    def test_held_against_short_words(self):
        for machine, first in PAIRS[::2]:
            told = rest_of(machine, first)
            taken = [word for word in plain.short_words(first) if plain.takes(first, word)][:12]
            for word in plain.short_words(machine):
                if plain.takes(told, word):
                    for ahead in taken:
                        self.assertTrue(plain.takes(machine, ahead + word), (machine, first, ahead, word))

    def test_of_no_word_all_words(self):
        for machine in plain.lot_machines():
            for first in NO_WORDS:
                if first[0] == machine[0]:
                    self.assertEqual(rest_of(machine, first), every(machine[0]))
                    self.assertEqual(head_of(machine, first), every(machine[0]))
                    self.assertEqual(reached_by(machine, first), ())

    def test_of_the_empty_word_the_machine(self):
        for machine in plain.lot_machines():
            alone = (machine[0], ((1,) * machine[0],) * 2, (0,))
            self.assertEqual(rest_of(machine, alone), smallest(machine))
            self.assertEqual(head_of(machine, alone), smallest(machine))
            self.assertIsNone(lacking_word(machine, alone))


class Head(unittest.TestCase):
    def check(self, machine, second):
        told = head_of(machine, second)
        self.assertTrue(plain.is_machine(told))
        self.assertTrue(plain.is_smallest(told))
        ahead = plain.ahead_of(machine, second)
        for standing, own in plain.pairs(machine, told):
            self.assertEqual(own in told[2], standing in ahead, (machine, second))
        return told

    def test_held_against_all_words(self):
        many = set()
        for machine, second in PAIRS + GREAT_PAIRS:
            many.add(len(self.check(machine, second)[1]))
        self.assertLessEqual({1, 2, 3, 4, 5}, many)

    def test_held_against_short_words(self):
        for machine, second in PAIRS[::2]:
            told = head_of(machine, second)
            taken = [word for word in plain.short_words(second) if plain.takes(second, word)][:12]
            for word in plain.short_words(machine):
                right = all(plain.takes(machine, word + behind) for behind in taken)
                if plain.takes(told, word):
                    self.assertTrue(right, (machine, second, word))

    def is_within(self, one, other):
        return all(standing not in one[2] or own in other[2] for standing, own in plain.pairs(one, other))

    def test_the_head_of_the_rest_takes_all_words_of_the_factor_and_has_the_same_rest(self):
        grown = 0
        for machine, first in PAIRS + GREAT_PAIRS:
            rest = rest_of(machine, first)
            head = head_of(machine, rest)
            self.assertTrue(self.is_within(first, head))
            self.assertEqual(rest_of(machine, head), rest)
            grown += not self.is_within(head, first)
        self.assertGreater(grown, 100)

    def test_the_rest_of_the_head_takes_all_words_of_the_factor_and_has_the_same_head(self):
        grown = 0
        for machine, second in PAIRS + GREAT_PAIRS:
            head = head_of(machine, second)
            rest = rest_of(machine, head)
            self.assertTrue(self.is_within(second, rest))
            self.assertEqual(head_of(machine, rest), head)
            grown += not self.is_within(rest, second)
        self.assertGreater(grown, 100)


class LackingWord(unittest.TestCase):
    def lacking(self, machine, first, word):
        """True if the word is taken and is none of the factor with one of its rest behind it."""
        reached = plain.reached_by(machine, first)
        return plain.takes(machine, word) and not any(
            plain.takes(first, word[:at])
            and all(plain.led(machine, standing, word[at:]) in machine[2] for standing in reached)
            for at in range(len(word) + 1))

    def check(self, machine, first):
        told = lacking_word(machine, first)
        for word in plain.short_words(machine):
            if told is None or plain.less(word, told):
                self.assertFalse(self.lacking(machine, first, word), (machine, first, word, told))
        if told is not None:
            self.assertIs(type(told), str)
            self.assertTrue(self.lacking(machine, first, told), (machine, first, told))
        return told

    def test_held_against_short_words(self):
        lengths = {}
        for machine, first in PAIRS:
            told = self.check(machine, first)
            length = -1 if told is None else len(told)
            lengths[length] = lengths.get(length, 0) + 1
        self.assertGreater(min(lengths[length] for length in (-1, 0, 1, 2, 3)), 10)

    def test_held_against_all_sets_behind_all_places(self):
        checked = {True: 0, False: 0}
        for machine, first in PAIRS + GREAT_PAIRS:
            try:
                least = plain.lacking_word(machine, first, 400)
            except plain.TooGreat:
                continue
            checked[least is None] += 1
            self.assertEqual(lacking_word(machine, first), least, (machine, first))
        self.assertGreater(min(checked.values()), 100)

    def test_great_factors(self):
        for machine, first in GREAT_PAIRS[::3]:
            self.check(machine, first)

    def test_a_factor_without_words_lacks_all_that_the_machine_takes(self):
        for machine in plain.lot_machines():
            least = next((word for word in plain.short_words(machine) if plain.takes(machine, word)), None)
            for first in NO_WORDS:
                if first[0] == machine[0]:
                    self.assertEqual(lacking_word(machine, first), least)

    def test_a_machine_without_words_lacks_none(self):
        for machine, first in PAIRS:
            self.assertIsNone(lacking_word(machine[:2] + ((),), first))

    def test_only_words_of_the_factor_itself_count(self):
        # Both factors reach the same standings, but the second one takes the words of an even number of a's alone.
        machine = (1, ((1,), (1,)), (1,))
        self.assertIsNone(self.check(machine, (1, ((1,), (1,)), (1,))))
        self.assertEqual(self.check(machine, (1, ((1,), (2,), (1,)), (2,))), "a")
        self.assertEqual(self.check(plain.row(5, (1, 2, 3, 4)), plain.row(32, (7,))), "a")
        self.assertEqual(self.check(plain.ring(1, (0,)), plain.row(32, (31,))), "")
        self.assertEqual(self.check(plain.row(2, (1,)), plain.row(32, (31,))), "a")

    def test_long_lacking_words(self):
        for machine, first, word in (
                ((2, ((1, 0), (3, 1), (2, 4), (2, 3), (2, 0)), (4,)), (2, ((0, 1), (1, 2), (0, 1)), (0, 2)), "aabbab"),
                ((2, ((1, 2), (1, 4), (1, 2), (1, 3), (3, 2)), (1, 3, 4)), (2, ((0, 1), (0, 2), (2, 1)), (0, 2)),
                 "bababb"),
                ((3, ((3, 0, 3), (1, 3, 2), (2, 4, 3), (2, 0, 3), (4, 2, 4)), (1, 2, 3, 4)),
                 (3, ((0, 3, 3), (0, 2, 0), (2, 3, 0), (3, 0, 3)), (0, 1, 2, 3)), "aabcb"),
                ((1, ((4,), (2,), (1,), (2,), (3,)), (0, 2, 3, 4)),
                 (1, ((1,), (6,), (3,), (5,), (1,), (4,), (6,)), (0, 1, 2, 4, 5)), "aaaaa")):
            self.assertEqual(self.check(machine, first), word)

    def test_late_lacking_words(self):
        # Any number of a's with one b behind them, and factors that take these but for some numbers of a's.
        machine = (2, ((0, 1), (2, 2), (2, 2)), (1,))
        for many in (1, 5, 19, 25, 30):
            last, none = many, many + 1
            moves = tuple((at + 1 if at + 1 < many else none, last) for at in range(many)) + ((none, none),) * 2
            self.assertEqual(self.check(machine, (2, moves, (last,))), "a" * many + "b")
            moves = tuple(((at + 1) % many, last if at + 1 < many else none) for at in range(many)) + moves[many:]
            self.assertEqual(self.check(machine, (2, moves, (last,))), "a" * (many - 1) + "b")

    def test_great_factors_that_lack_nothing(self):
        for own in (20, 26, 32):
            # Their rest are all words, or all of an even number of letters.
            self.assertIsNone(self.check(plain.ring(1, (0,)), plain.ring(own, (0,))))
            self.assertIsNone(self.check(plain.ring(2, (0,)), plain.row(own, range(0, own - 1, 2))))
            self.assertIsNone(self.check(plain.ring(2, (1,)), plain.row(own, (1,))))
            self.assertEqual(self.check(plain.ring(2, (1,)), plain.row(own, (3,))), "a")


class Refusals(unittest.TestCase):
    ASKED = (reached_by, rest_of, head_of, lacking_word)

    def test_no_machine(self):
        machine = (2, ((0, 1), (1, 1)), (1,))
        for value in plain.any_values():
            for asked in self.ASKED:
                for other in (machine, value, plain.ring(6, ())):
                    with self.assertRaises(NoMachine):
                        asked(value, other)
                    with self.assertRaises(NoMachine):
                        asked(other, value)

    def test_other_numbers_of_letters(self):
        for letters, own in ((1, 2), (2, 1), (1, 3), (3, 1), (2, 3), (3, 2)):
            for many in (1, 5, 6, 32):
                for asked in self.ASKED:
                    with self.assertRaises(NotAlike):
                        asked(plain.ring(many, (0,), letters), plain.ring(many, (0,), own))

    def test_more_than_five_standings_of_the_machine_only(self):
        rng = random.Random(83)
        for letters in (1, 2, 3):
            for many in (6, 7, 20, 27, 32):
                for machine in (plain.ring(many, (0,), letters), plain.row(many, (1, 2), letters),
                                plain.some_machine(rng, letters, many)):
                    for asked in self.ASKED:
                        for told in (machine, plain.ring(1, (0,), letters), plain.ring(1, (), letters)):
                            with self.assertRaises(TooMany) as error:
                                asked(machine, told)
                            self.assertEqual(error.exception.limit, 5)
                        for few in (1, 4, 5):
                            asked(plain.ring(few, (0,), letters), machine)


if __name__ == "__main__":
    unittest.main()
