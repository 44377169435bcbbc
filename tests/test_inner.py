"""Point 20: words that are cut strictly inside, inner cuts, and papers that there is none."""

import copy
import itertools
import random
import unittest

from seamlots.cuts import failing_word
from seamlots.inner import failing_inner, inner_cuts, inner_places, is_no_inner, no_inner
from seamlots.wrongs import NoCut, NoMachine, NoWord, TooMany
from tests import plain, plain_made, plain_papers


def seldom_back(rng, letters, many):
    """A machine in which a letter seldom leads to a lesser standing."""
    moves = tuple(tuple(rng.randrange(many) if rng.randrange(8) == 0 else min(many - 1, at + rng.choice((0, 1, 1, 2)))
                        for _ in range(letters)) for at in range(many))
    return letters, moves, tuple(sorted(rng.sample(range(many), rng.randrange(1, many + 1))))


def made_of_two(rng, times):
    """Machines that take the words of two lots without the empty word, the one behind the other."""
    found = []
    while len(found) < times:
        letters = rng.randrange(1, 4)
        one, other = [plain.with_other_end(machine, 0) if 0 in machine[2] else machine for machine in (
            plain.one_way(rng, letters, rng.randrange(2, 5)) for _ in range(2))]
        made = plain_made.behind(one, other)
        if len(made[1]) <= 5 and plain_papers.takes_some(made):
            found.append(plain.renumbered(rng, made))
    return found


def inner_machines():
    """Well-known and drawn machines, and such as seldom lead back, which take few words or short ones."""
    rng = random.Random(171)
    drawn = [seldom_back(rng, letters, many) for letters in (1, 2, 3) for many in (2, 3, 4, 5) for _ in range(12)]
    return plain.lot_machines() + drawn + made_of_two(rng, 45)


MACHINES = inner_machines()
NO_WORDS = [(letters, ((0,) * letters,), ()) for letters in (1, 2, 3)] + [
    (1, ((1,), (0,)), ()), (2, ((0, 0), (1, 1)), (1,)), (3, ((1, 0, 0), (1, 1, 0), (0, 1, 2)), (2,)),
    plain.row(5, (), 2), (2, ((0, 0),) * 5, (1, 2, 3, 4))]


class Places(unittest.TestCase):
    def test_held_against_all_places(self):
        many = {}
        rng = random.Random(172)
        for machine in MACHINES:
            for cut in rng.sample(plain.cuts(machine), min(8, 2 ** len(machine[1]) - 1)):
                for word in rng.sample(plain.short_words(machine), 6) + [
                        "".join(rng.choice("abc"[:machine[0]]) for _ in range(12))]:
                    told = inner_places(machine, cut, word)
                    self.assertIs(type(told), list)
                    self.assertEqual(told, plain_papers.inner_places(machine, cut, word))
                    many[len(told)] = many.get(len(told), 0) + 1
        self.assertGreater(min(many[places] for places in range(6)), 20)

    def test_words_of_no_and_of_one_letter(self):
        every = (3, ((0, 0, 0),), (0,))
        told = [inner_places(every, (0,), word) for word in ("", "a", "c", "ab", "abc")]
        self.assertEqual(told, [[], [], [], [1], [1, 2]])

    def test_long_words(self):
        every = (1, ((0,),), (0,))
        self.assertEqual(inner_places(every, (0,), "a" * 3000), list(range(1, 3000)))


class FailingInner(unittest.TestCase):
    def check(self, machine, cut):
        told = failing_inner(machine, cut)
        failing = plain_papers.short_failing_inner(machine, cut)
        if failing:
            self.assertEqual(told, failing[0], (machine, cut))
        elif told is not None:
            self.assertNotIn(told, plain.short_words(machine))
            self.assertTrue(plain_papers.is_failing_inner(machine, cut, told))
        return told

    def test_held_against_short_words(self):
        lengths = {}
        for machine in MACHINES:
            for cut in plain.cuts(machine):
                told = self.check(machine, cut)
                length = -1 if told is None else len(told)
                lengths[length] = lengths.get(length, 0) + 1
        self.assertGreater(min(lengths[length] for length in (-1, 0, 1, 2, 3, 4)), 10)

    def test_held_against_all_sets_behind_all_places(self):
        rng = random.Random(173)
        checked = {True: 0, False: 0}
        for machine in MACHINES:
            for cut in rng.sample(plain.cuts(machine), min(10, 2 ** len(machine[1]) - 1)):
                try:
                    least = plain_papers.failing_inner(machine, cut, 300)
                except plain.TooGreat:
                    continue
                checked[least is None] += 1
                self.assertEqual(failing_inner(machine, cut), least, (machine, cut))
        self.assertGreater(min(checked.values()), 60)

    def test_the_empty_word_and_single_letters_fail(self):
        every = (2, ((0, 0),), (0,))
        self.assertEqual(failing_inner(every, (0,)), "")
        self.assertEqual(failing_inner((2, ((1, 1), (1, 1)), (1,)), (1,)), "a")
        self.assertEqual(failing_inner((2, ((0, 1), (1, 1)), (1,)), (0, 1)), "b")
        # These words can be cut at their edges only.
        machine = plain.row(4, (2,))
        self.assertEqual([failing_inner(machine, cut) for cut in ((0,), (1,), (2,))], ["aa", None, "aa"])
        self.assertIsNone(failing_word(machine, (0,)))

    def test_no_words(self):
        for machine in NO_WORDS:
            for cut in plain.cuts(machine):
                self.assertIsNone(failing_inner(machine, cut))


class InnerCuts(unittest.TestCase):
    def test_held_against_short_words(self):
        many = {}
        for machine in MACHINES:
            told = inner_cuts(machine)
            self.assertIs(type(told), list)
            self.assertEqual(told, [cut for cut in plain.cuts(machine) if cut in told])
            many[len(told)] = many.get(len(told), 0) + 1
            for cut in told:
                self.assertEqual(plain_papers.short_failing_inner(machine, cut), [], (machine, cut))
            if not plain_papers.takes_some(machine):
                self.assertEqual([told, no_inner(machine)], [[], []])
                continue
            paper = no_inner(machine)
            if told:
                self.assertIsNone(paper)
                continue
            self.assertIs(type(paper), list)
            self.assertEqual([cut for cut, _ in paper], plain.cuts(machine))
            for row in paper:
                self.assertIs(type(row), tuple)
                self.assertEqual(row[1], failing_inner(machine, row[0]))
                self.assertTrue(plain_papers.is_failing_inner(machine, *row))
        self.assertGreater(min(many[number] for number in (0, 1, 2, 6)), 6)

    def test_held_against_all_sets_behind_all_places(self):
        checked = {True: 0, False: 0}
        for machine in MACHINES:
            if not plain_papers.takes_some(machine):
                continue
            try:
                least = [(cut, plain_papers.failing_inner(machine, cut, 300)) for cut in plain.cuts(machine)]
            except plain.TooGreat:
                continue
            right = [cut for cut, word in least if word is None]
            checked[len(right) > 0] += 1
            self.assertEqual(inner_cuts(machine), right, machine)
            self.assertEqual(no_inner(machine), None if right else least)
        self.assertGreater(min(checked.values()), 25)

    def test_an_inner_cut_splits_and_is_not_idle(self):
        for machine in MACHINES:
            for cut in inner_cuts(machine):
                self.assertIsNone(failing_word(machine, cut))
                self.assertFalse(plain.is_idle(machine, cut))
                # The words are those of both lots without the empty word, one behind the other.
                turns = plain.short_turns(machine)
                firsts = {word for word, turn in turns.items() if word and turn[0] in cut}
                seconds = {word for word, turn in turns.items() if word and all(turn[at] in machine[2] for at in cut)}
                for word, turn in turns.items():
                    made = any(word[:at] in firsts and word[at:] in seconds for at in range(len(word) + 1))
                    self.assertIs(turn[0] in machine[2], made)

    def test_what_is_made_of_two_lots_without_the_empty_word_has_an_inner_cut(self):
        for machine in made_of_two(random.Random(174), 120):
            self.assertNotEqual(inner_cuts(machine), [], machine)
            self.assertIsNone(no_inner(machine))
            self.assertIs(is_no_inner(machine, []), False)

    def test_machines_that_take_no_word(self):
        for machine in NO_WORDS:
            self.assertEqual([inner_cuts(machine), no_inner(machine), is_no_inner(machine, [])], [[], [], True])
            for value in (None, (), [()], [((0,), "")], "", False, [[]]):
                self.assertIs(is_no_inner(machine, value), False)

    def test_told_machines(self):
        self.assertEqual(inner_cuts((1, ((1,), (2,), (2,)), (2,))), [(1,), (1, 2)])
        self.assertEqual(no_inner((1, ((1,), (1,)), (0,))), [((0,), ""), ((0, 1), ""), ((1,), "")])
        self.assertEqual(inner_cuts(plain.row(5, (2, 3))), [(1,), (1, 2)])
        self.assertEqual(inner_cuts(plain.ring(5, (2,))), [(1,)])
        self.assertEqual(inner_cuts(plain.row(5, (3,))), [(1,), (2,)])


class NoOtherLots(unittest.TestCase):
    """Machines that take finitely many words: all lots without the empty word are few enough to try."""

    def has_lots(self, told):
        aheads = sorted({word[:at] for word in told for at in range(1, len(word))})
        behinds = sorted({word[at:] for word in told for at in range(1, len(word))})
        for many in range(1, len(aheads) + 1):
            for first in itertools.combinations(aheads, many):
                second = [word for word in behinds if all(ahead + word in told for ahead in first)]
                if second and {one + other for one in first for other in second} == told:
                    return True
        return False

    def test_drawn_machines(self):
        rng = random.Random(175)
        found = {True: 0, False: 0}
        while min(found.values()) < 40:
            moves = tuple((rng.randrange(at + 1, 5), rng.randrange(at + 1, 5)) for at in range(4)) + ((4, 4),)
            ends = [end for end in sorted(rng.sample(range(4), rng.randrange(1, 4))) if end or rng.randrange(4) == 0]
            machine = 2, moves, tuple(ends)
            told = {word for word in plain.words(2, 4) if plain.takes(machine, word)}
            if not 1 <= len(told) <= 7:
                continue
            right = self.has_lots(told)
            found[right] += 1
            self.assertIs(len(inner_cuts(machine)) > 0, right, machine)
            self.assertIs(no_inner(machine) is None, right)


class Papers(unittest.TestCase):
    def check(self, machine, value):
        right = plain_papers.is_no_inner(machine, value)
        self.assertIs(is_no_inner(machine, value), right, (machine, value))
        return right

    def test_papers_with_one_or_two_things_changed(self):
        rng = random.Random(176)
        found = {True: 0, False: 0}
        for machine in MACHINES:
            paper = no_inner(machine)
            if paper is None:
                paper = [(cut, failing_inner(machine, cut) or "") for cut in plain.cuts(machine)]
                self.assertIs(self.check(machine, paper), False)
            else:
                self.assertIs(self.check(machine, paper), True)
            before = copy.deepcopy(paper)
            for _ in range(8):
                value = plain.changed(rng, paper)
                found[self.check(machine, value)] += 1
                found[self.check(machine, plain.changed(rng, value))] += 1
            for value in (paper[::-1], paper[1:], paper[:-1], paper + paper[:1], tuple(paper),
                          [list(row) for row in paper], [row[::-1] for row in paper], dict(paper),
                          [(cut, word + "a") for cut, word in paper]):
                found[self.check(machine, value)] += 1
            self.assertEqual(paper, before)
        self.assertGreater(min(found.values()), 60)

    def test_other_failing_words(self):
        rng = random.Random(177)
        others = 0
        for machine in MACHINES:
            paper = no_inner(machine) or []
            for at in rng.sample(range(len(paper)), min(3, len(paper))):
                cut, word = paper[at]
                failing = plain_papers.short_failing_inner(machine, cut)[:3]
                for other in rng.sample(plain.short_words(machine), 2) + failing:
                    value = paper[:at] + [(cut, other)] + paper[at + 1:]
                    others += self.check(machine, value) and other != word
        self.assertGreater(others, 300)

    def test_cuts_told_otherwise(self):
        machine = (1, ((1,), (1,)), (0,))
        paper = no_inner(machine)
        for cut in ((False,), [0], (0.0,), 0, None, (0, 0), ()):
            self.assertIs(self.check(machine, [(cut, "")] + paper[1:]), False)
        for cut in ((False, True), (0, True), (1, 0)):
            self.assertIs(self.check(machine, paper[:1] + [(cut, "")] + paper[2:]), False)

    def test_other_values(self):
        for machine in MACHINES[::9]:
            for value in plain.any_values():
                self.check(machine, value)
                self.assertIs(is_no_inner(machine, [(value, "")]), False)
                self.assertIs(is_no_inner(machine, [((0,), value)]), False)


class Refusals(unittest.TestCase):
    MACHINE = (2, ((0, 1), (1, 1)), (1,))

    def test_wrong_arguments(self):
        for value in plain.any_values():
            for asked, rest in ((inner_places, ((0,), "a")), (inner_places, (None, None)), (failing_inner, ((0,),)),
                                (failing_inner, (None,)), (inner_cuts, ()), (no_inner, ()), (is_no_inner, (None,))):
                with self.assertRaises(NoMachine):
                    asked(value, *rest)
            for word in ("a", None):
                with self.assertRaises(NoCut):
                    inner_places(self.MACHINE, value, word)
            with self.assertRaises(NoCut):
                failing_inner(self.MACHINE, value)
            with self.assertRaises(NoWord):
                inner_places(self.MACHINE, (0,), value)

    def test_more_than_five_standings(self):
        for machine in (plain.ring(6, (0,)), plain.row(7, (5,), 2), plain.ring(32, (3,), 3), plain.ring(6, ())):
            for asked, rest in ((inner_places, ((5,), "a")), (failing_inner, ((5,),)), (inner_cuts, ()), (no_inner, ()),
                                (is_no_inner, ([],)), (is_no_inner, (None,))):
                with self.assertRaises(TooMany) as error:
                    asked(machine, *rest)
                self.assertEqual(error.exception.limit, 5)
            with self.assertRaises(NoWord):
                inner_places(machine, (5,), "d")
            with self.assertRaises(NoCut):
                inner_places(machine, (32,), "d")


if __name__ == "__main__":
    unittest.main()
