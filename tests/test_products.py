"""Points 3 and 8 to 10: products, and papers that a machine is none."""

import itertools
import random
import unittest

from seamlots.products import is_no_product, is_product, no_product, splitting_cuts
from seamlots.wrongs import NoMachine, TooMany
from tests import plain

MACHINES = plain.lot_machines()
AB_BA = (2, ((1, 2), (4, 3), (3, 4), (4, 4), (4, 4)), (3,))
TOO_GREAT = [plain.ring(6, (0,)), plain.ring(6, (), 2), plain.row(6, (5,), 3), plain.ring(32, (3,))]


class Answers(unittest.TestCase):
    def test_held_against_short_words(self):
        for machine in MACHINES:
            told, paper = splitting_cuts(machine), no_product(machine)
            self.assertIs(type(told), list)
            self.assertEqual(told, [cut for cut in plain.cuts_not_idle(machine) if cut in told])
            self.assertIs(is_product(machine), len(told) > 0)
            for cut in told:
                self.assertEqual(plain.short_failing_words(machine, cut), [], (machine, cut))
            if told:
                self.assertIsNone(paper)
                continue
            self.assertIs(type(paper), list)
            self.assertEqual([cut for cut, _ in paper], list(plain.cuts_not_idle(machine)))
            for row in paper:
                self.assertIs(type(row), tuple)
                cut, word = row
                self.assertIs(type(word), str)
                self.assertTrue(plain.takes(machine, word))
                self.assertEqual(plain.cuttings(machine, cut, word), [])
                if word in plain.short_words(machine):
                    self.assertEqual(word, plain.short_failing_words(machine, cut)[0])
                else:
                    self.assertEqual(plain.short_failing_words(machine, cut), [])

    def test_held_against_all_sets_behind_all_places(self):
        checked = {True: 0, False: 0}
        for machine in MACHINES:
            try:
                least = {cut: plain.failing_word(machine, cut, 500) for cut in plain.cuts_not_idle(machine)}
            except plain.TooGreat:
                continue
            told = [cut for cut in plain.cuts_not_idle(machine) if least[cut] is None]
            checked[len(told) > 0] += 1
            self.assertEqual(splitting_cuts(machine), told)
            self.assertIs(is_product(machine), len(told) > 0)
            self.assertEqual(no_product(machine), None if told else list(least.items()))
        self.assertGreater(min(checked.values()), 50)

    def test_cuts_that_split_make_all_words_of_their_lots(self):
        for machine in MACHINES[::2]:
            turns = plain.short_turns(machine)
            for cut in splitting_cuts(machine)[:4]:
                firsts = {word for word, turn in turns.items() if turn[0] in cut}
                seconds = {word for word, turn in turns.items() if all(turn[at] in machine[2] for at in cut)}
                for word, turn in turns.items():
                    made = any(word[:at] in firsts and word[at:] in seconds for at in range(len(word) + 1))
                    self.assertIs(turn[0] in machine[2], made)

    def test_well_known_machines(self):
        for machine in plain.PRIMES:
            self.assertEqual(splitting_cuts(machine), [])
            self.assertIs(is_product(machine), False)
            self.assertGreater(len(no_product(machine)), 0)
        self.assertEqual(no_product(AB_BA), [((1,), "ba"), ((2,), "ab")])
        every = (2, ((0, 0),), (0,))
        self.assertEqual([splitting_cuts(every), is_product(every), no_product(every)], [[(0,)], True, None])
        blocks = (2, ((0, 1), (2, 1), (2, 2)), (0, 1))
        self.assertEqual([splitting_cuts(blocks), is_product(blocks), no_product(blocks)],
                         [[(0,), (0, 1)], True, None])
        words = no_product((2, ((3, 4), (1, 2), (2, 3), (4, 1), (4, 4)), (0, 2, 3)))
        self.assertEqual(words[1], ((0, 2), "ababb"))

    def test_cuts_ascend_as_tuples_do(self):
        # All cuts with 0 split this machine, and so do those of ends alone: they do not come by their lengths.
        machine = (1, ((1,), (2,), (0,)), (0, 1, 2))
        self.assertEqual(splitting_cuts(machine), [(0,), (0, 1), (0, 1, 2), (0, 2)])
        for machine in MACHINES:
            told = splitting_cuts(machine)
            self.assertEqual(told, sorted(told))

    def test_all_cuts_idle(self):
        for machine in ((1, ((0,),), ()), (2, ((1, 1), (1, 1)), (0,)), (3, ((1, 2, 2), (2, 2, 2), (2, 2, 2)), (1,)),
                        (1, ((1,), (2,), (2,)), (0, 1)), (2, ((1, 2), (0, 1), (2, 0)), ())):
            self.assertEqual([splitting_cuts(machine), is_product(machine), no_product(machine)], [[], False, []])
            self.assertIs(is_no_product(machine, []), True)
            for value in (None, (), [()], [((0,), "")], [((0,), "a")], "", 0, False, [[]]):
                self.assertIs(is_no_product(machine, value), False)


class NoOtherLots(unittest.TestCase):
    """Machines that take finitely many words: all lots, also such as no machine tells, are few enough to try."""

    def is_product(self, told):
        aheads = sorted({word[:at] for word in told for at in range(len(word) + 1)})
        behinds = sorted({word[at:] for word in told for at in range(len(word) + 1)})
        for many in range(1, len(aheads) + 1):
            for first in itertools.combinations(aheads, many):
                second = [word for word in behinds if all(ahead + word in told for ahead in first)]
                if any(first) and any(second) and {one + other for one in first for other in second} == told:
                    return True
        return False

    def test_all_lengths_below_four(self):
        found = {True: 0, False: 0}
        for many in range(5):
            for lengths in itertools.combinations(range(4), many):
                machine = plain.row(5, lengths)
                right = self.is_product({"a" * length for length in lengths})
                found[right] += 1
                self.assertIs(is_product(machine), right, machine)
                self.assertIs(no_product(machine) is None, right)
        self.assertGreater(min(found.values()), 4)

    def test_drawn_machines(self):
        rng = random.Random(51)
        found = {True: 0, False: 0}
        while min(found.values()) < 25:
            moves = tuple((rng.randrange(at + 1, 5), rng.randrange(at + 1, 5)) for at in range(4)) + ((4, 4),)
            machine = 2, moves, tuple(sorted(rng.sample(range(4), rng.randrange(1, 4))))
            told = {word for word in plain.words(2, 4) if plain.takes(machine, word)}
            if not 2 <= len(told) <= 6:
                continue
            right = self.is_product(told)
            found[right] += 1
            self.assertIs(is_product(machine), right, machine)
            self.assertIs(no_product(machine) is None, right)


class Papers(unittest.TestCase):
    def check(self, machine, value):
        right = plain.is_no_product(machine, value)
        self.assertIs(is_no_product(machine, value), right, (machine, value))
        return right

    def other_words(self, rng, machine, cut):
        """Failing words of the cut, short ones and long ones."""
        long_words = ["".join(rng.choice("abc"[:machine[0]]) for _ in range(many)) for many in (6, 7, 12, 30, 200)]
        return plain.short_failing_words(machine, cut)[:20] + [
            word for word in long_words if plain.takes(machine, word) and not plain.cuttings(machine, cut, word)]

    def test_papers_with_least_and_with_other_failing_words(self):
        rng = random.Random(61)
        others = 0
        for machine in MACHINES:
            paper = no_product(machine)
            if paper is None:
                continue
            self.assertTrue(self.check(machine, paper))
            self.assertIs(is_no_product(machine, [(cut, word) for cut, word in paper]), True)
            choices = [self.other_words(rng, machine, cut) or [word] for cut, word in paper]
            for _ in range(5):
                other = [(cut, rng.choice(words)) for (cut, _), words in zip(paper, choices)]
                others += other != paper
                self.assertTrue(self.check(machine, other))
            last = [(cut, words[-1]) for (cut, _), words in zip(paper, choices)]
            self.assertTrue(self.check(machine, last))
        self.assertGreater(others, 50)

    def test_rows_left_out_doubled_or_in_another_order(self):
        for machine in plain.PRIMES:
            paper = no_product(machine)
            for at in range(len(paper)):
                for value in (paper[:at] + paper[at + 1:], paper[:at + 1] + paper[at:], paper[at + 1:] + paper[:at + 1],
                              paper[:at] + paper[:at] + paper[at + 1:], paper + [paper[at]], [paper[at]] + paper):
                    self.check(machine, value)
                self.assertIs(is_no_product(machine, paper[:at] + paper[at + 1:]), False)
                self.assertIs(is_no_product(machine, paper[:at + 1] + paper[at:]), False)
                if at:
                    swapped = paper[:at - 1] + [paper[at], paper[at - 1]] + paper[at + 1:]
                    self.assertIs(is_no_product(machine, swapped), False)
                    twice = paper[:at - 1] + [paper[at], paper[at]] + paper[at + 1:]
                    self.assertIs(is_no_product(machine, twice), False)
            self.assertIs(is_no_product(machine, []), False)
            self.assertIs(is_no_product(machine, paper * 2), False)

    def test_rows_of_idle_cuts(self):
        many = 0
        for machine in plain.PRIMES:
            paper = no_product(machine)
            for cut in plain.cuts(machine):
                if cut not in plain.cuts_not_idle(machine):
                    for word in plain.short_failing_words(machine, cut)[:3] + [""]:
                        value = sorted(paper + [(cut, word)])
                        many += 1
                        self.assertIs(is_no_product(machine, value), False)
        self.assertGreater(many, 50)

    def test_words_that_can_be_cut_or_are_not_taken(self):
        found = {True: 0, False: 0}
        for machine in plain.PRIMES:
            paper = no_product(machine)
            for at, (cut, _) in enumerate(paper):
                for word in plain.short_words(machine)[:16]:
                    right = self.check(machine, paper[:at] + [(cut, word)] + paper[at + 1:])
                    self.assertIs(right, word in plain.short_failing_words(machine, cut))
                    found[right] += 1
        self.assertGreater(min(found.values()), 100)

    def test_words_of_other_letters(self):
        for machine in plain.PRIMES:
            paper = no_product(machine)
            for at, (cut, word) in enumerate(paper):
                for other in ("abcd"[machine[0]], "A", word + "d", word.upper() + " ", word + "\n", "\u00e4"):
                    self.assertIs(is_no_product(machine, paper[:at] + [(cut, other)] + paper[at + 1:]), False)

    def test_lists_and_tuples_exchanged(self):
        for machine in plain.PRIMES:
            paper = no_product(machine)
            self.assertIs(is_no_product(machine, tuple(paper)), False)
            self.assertIs(is_no_product(machine, dict(paper)), False)
            for at, (cut, word) in enumerate(paper):
                for row in ([cut, word], (list(cut), word), (cut, [word]), (cut, (word,)), (cut, tuple(word)),
                            (word, cut), (cut,), (cut, word, word), (cut, word, None), ((cut, word),), cut, word, (),
                            None):
                    self.assertIs(is_no_product(machine, paper[:at] + [row] + paper[at + 1:]), False)
                self.assertIs(is_no_product(machine, paper[:at] + [(cut, word)] + paper[at + 1:]), True)

    def test_true_and_false_for_integers(self):
        many = 0
        for machine in plain.PRIMES:
            paper = no_product(machine)
            for at, (cut, word) in enumerate(paper):
                for place, standing in enumerate(cut):
                    if standing < 2:
                        many += 1
                        other = cut[:place] + (bool(standing),) + cut[place + 1:]
                        self.assertEqual(other, cut)
                        self.assertIs(is_no_product(machine, paper[:at] + [(other, word)] + paper[at + 1:]), False)
        self.assertGreater(many, 30)

    def test_one_or_two_things_changed(self):
        rng = random.Random(62)
        found = {True: 0, False: 0}
        machines = plain.PRIMES + [machine for machine in MACHINES if no_product(machine) is not None][::3]
        for machine in machines * 3:
            paper = no_product(machine)
            for _ in range(25):
                value = plain.changed(rng, paper)
                if rng.randrange(2):
                    value = plain.changed(rng, value)
                found[self.check(machine, value)] += 1
        self.assertGreater(min(found.values()), 100)

    def test_words_changed_by_a_letter(self):
        rng = random.Random(63)
        found = {True: 0, False: 0}
        for machine in plain.PRIMES * 5:
            paper = no_product(machine)
            for at, (cut, word) in enumerate(paper):
                place = rng.randrange(len(word) + 1)
                other = word[:place] + rng.choice("abc"[:machine[0]]) + word[place + rng.randrange(2):]
                found[self.check(machine, paper[:at] + [(cut, other)] + paper[at + 1:])] += 1
        self.assertGreater(min(found.values()), 100)

    def test_products_have_no_papers(self):
        for machine in MACHINES:
            if is_product(machine):
                rows = [(cut, plain.short_failing_words(machine, cut)[:1]) for cut in plain.cuts_not_idle(machine)]
                values = [[(cut, words[0]) for cut, words in rows if words],
                          [(cut, words[0] if words else "") for cut, words in rows],
                          [(cut, words[0] if words else None) for cut, words in rows], [], None]
                for value in values:
                    self.assertIs(is_no_product(machine, value), False)

    def test_other_values(self):
        for value in plain.any_values() + [b"", {}, {"a": 1}, [None] * 2, [plain.nested(29)], [()] * 2, [("", "")] * 2]:
            self.assertIs(is_no_product(AB_BA, value), False)
            self.assertIs(is_no_product(AB_BA, [value, value]), False)
            self.assertIs(is_no_product(AB_BA, [(value, "ba"), ((2,), "ab")]), False)
            self.assertIs(is_no_product(AB_BA, [((1,), "ba"), ((2,), value)]), False)
            self.assertIs(is_no_product(AB_BA, [((1,), "ba"), value]), False)
            right = type(value) is int and value == 2
            self.assertIs(is_no_product(AB_BA, [((1,), "ba"), ((value,), "ab")]), right)
        deep = plain.nested(100)
        self.assertIs(is_no_product(AB_BA, [((1,), deep), (deep, "ab")]), False)
        self.assertIs(is_no_product(AB_BA, [((1,), "ba"), ((2,), "ab")]), True)

    def test_long_failing_words(self):
        # No letter, one, or an even number: after the cut (0, 4), which takes at most one, at most one more can stand.
        machine = (1, ((4,), (4,), (3,), (2,), (2,)), (0, 1, 2, 4))
        paper = no_product(machine)
        for many, right in ((100000, True), (99999, False), (99998, True)):
            value = [(cut, word if len(word) < 4 else "a" * many) for cut, word in paper]
            self.assertIs(is_no_product(machine, value), right)


class Refusals(unittest.TestCase):
    def test_no_machine(self):
        for value in plain.any_values():
            for asked in (splitting_cuts, is_product, no_product, lambda told: is_no_product(told, []),
                          lambda told: is_no_product(told, told)):
                with self.assertRaises(NoMachine):
                    asked(value)

    def test_more_than_five_standings(self):
        for machine in TOO_GREAT:
            for asked in (splitting_cuts, is_product, no_product, lambda told: is_no_product(told, []),
                          lambda told: is_no_product(told, None)):
                with self.assertRaises(TooMany) as error:
                    asked(machine)
                self.assertEqual(error.exception.limit, 5)


if __name__ == "__main__":
    unittest.main()
