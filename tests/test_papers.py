"""Point 22: split papers, idle papers and live words."""

import copy
import random
import unittest

from seamlots.cuts import failing_word, is_idle
from seamlots.papers import idle_paper, is_idle_paper, is_split_paper, live_words, split_paper
from seamlots.wrongs import NoCut, NoMachine, TooMany
from tests import plain, plain_papers

MACHINES = plain.lot_machines()
ASKED = (split_paper, idle_paper, live_words)


def some_cuts(seed, most):
    rng = random.Random(seed)
    return [(machine, cut) for machine in MACHINES
            for cut in sorted(rng.sample(plain.cuts(machine), min(most, 2 ** len(machine[1]) - 1)))]


class SplitPaper(unittest.TestCase):
    def test_there_is_one_exactly_if_the_cut_splits(self):
        found = {True: 0, False: 0}
        for machine in MACHINES:
            for cut in plain.cuts(machine):
                splits = failing_word(machine, cut) is None
                found[splits] += 1
                told = split_paper(machine, cut)
                self.assertIs(told is not None, splits)
                if splits:
                    self.assertIs(type(told), list)
                    self.assertTrue(plain_papers.is_split_paper(machine, cut, told))
                    self.assertIs(is_split_paper(machine, cut, told), True)
        self.assertGreater(min(found.values()), 300)

    def test_just_the_rows_of_all_words_ascending(self):
        many = {True: 0, False: 0}
        for machine, cut in some_cuts(191, 12):
            try:
                right = plain_papers.rows(machine, cut, 200)
            except plain.TooGreat:
                continue
            told = split_paper(machine, cut)
            bad = [row for row in right if plain_papers.is_bad(machine, row)]
            many[len(bad) > 0] += 1
            if bad:
                self.assertIsNone(told, (machine, cut))
                continue
            self.assertEqual(told, right, (machine, cut))
        self.assertGreater(min(many.values()), 300)

    def test_rows_of_short_words_are_among_them(self):
        for machine, cut in some_cuts(192, 6):
            told = split_paper(machine, cut)
            if told is not None:
                for word in plain.short_words(machine):
                    self.assertIn(plain_papers.row_of(machine, cut, word), told)

    def test_told_papers(self):
        machine = (1, ((1,), (2,), (2,)), (1,))
        self.assertEqual(split_paper(machine, (0,)), [(0, ((0,),)), (1, ((1,),)), (2, ((2,),))])
        # The row of b has two sets, of which the one is within the other one.
        machine = (2, ((0, 1), (1, 1)), (1,))
        self.assertEqual(split_paper(machine, (0, 1)), [(0, ((0, 1),)), (1, ((1,),))])
        self.assertEqual(split_paper(plain.ring(1, (0,), 3), (0,)), [(0, ((0,),))])
        # Without any word, each cut splits; its rows may have no sets.
        self.assertEqual(split_paper(plain.row(2, ()), (1,)), [(0, ()), (1, ((1,),))])


class OtherSplitPapers(unittest.TestCase):
    def check(self, machine, cut, value):
        right = plain_papers.is_split_paper(machine, cut, value)
        self.assertIs(is_split_paper(machine, cut, value), right, (machine, cut, value))
        return right

    def papers(self, seed, most):
        return [(machine, cut, split_paper(machine, cut)) for machine, cut in some_cuts(seed, most)
                if split_paper(machine, cut) is not None]

    def test_in_another_order_and_with_rows_told_twice(self):
        rng = random.Random(193)
        for machine, cut, paper in self.papers(194, 5):
            before = copy.deepcopy(paper)
            for value in (paper[::-1], rng.sample(paper, len(paper)), paper + paper, paper + paper[:1]):
                self.assertIs(self.check(machine, cut, value), True)
            self.assertIs(self.check(machine, cut, tuple(paper)), False)
            self.assertIs(self.check(machine, cut, paper[1:]), False)
            self.assertEqual(paper, before)

    def test_with_rows_more(self):
        """Rows that no word has, with all those to which the letters lead from them."""
        rng = random.Random(195)
        found = {True: 0, False: 0}
        for machine, cut, paper in self.papers(196, 3):
            cuts = plain.cuts(machine)
            for _ in range(4):
                sets = plain_papers.least_sets(set(rng.sample(cuts, rng.randrange(min(3, len(cuts)) + 1))))
                more = {(rng.randrange(len(machine[1])), sets)}
                while True:
                    led = {plain_papers.next_row(machine, cut, row, letter) for row in more
                           for letter in "abc"[:machine[0]]}
                    if led <= more:
                        break
                    more |= led
                more = sorted(more)
                found[self.check(machine, cut, more + paper)] += 1
                found[self.check(machine, cut, paper + more[1:])] += 1
                found[self.check(machine, cut, more)] += 1
        self.assertGreater(min(found.values()), 300)

    def test_with_things_changed(self):
        rng = random.Random(197)
        found = {True: 0, False: 0}
        for machine, cut, paper in self.papers(198, 5):
            for _ in range(6):
                value = plain.changed(rng, paper)
                found[self.check(machine, cut, value)] += 1
                found[self.check(machine, cut, plain.changed(rng, value))] += 1
            found[self.check(machine, rng.choice(plain.cuts(machine)), paper)] += 1
            found[self.check(plain.with_other_end(machine, rng.randrange(len(machine[1]))), cut, paper)] += 1
        self.assertGreater(min(found.values()), 250)

    def test_the_form_of_rows(self):
        machine, cut = (2, ((0, 0), (1, 1), (2, 2)), ()), (0,)
        paper = split_paper(machine, cut)
        self.assertEqual(paper, [(0, ((0,),))])
        for row, right in (
                ((1, ()), True), ((1, ((0,),)), True), ((1, ((0,), (1,))), True), ((1, ((0, 1), (0, 2), (1, 2))), True),
                ((2, ((0, 2), (1,))), True),
                # Not ascending, told twice, and with one set within another one.
                ((1, ((1,), (0,))), False), ((1, ((0,), (0,))), False), ((1, ((0,), (0, 1))), False),
                ((1, ((0, 1), (1,))), False), ((1, ((),)), False), ((1, ((1, 0),)), False), ((1, ((3,),)), False),
                ((3, ()), False), ((-1, ()), False), ((True, ()), False), ((1, [(0,)]), False), ([1, ()], False),
                ((1, ([0],)), False), ((1, ((False,),)), False), ((1,), False), ((1, (), ()), False), (None, False),
                ((1, None), False), ((None, ()), False), ((1, (None,)), False), ((), False),
                ((1, ((0,), None)), False)):
            self.assertIs(self.check(machine, cut, paper + [row]), right, row)
            self.assertIs(self.check(machine, cut, [row] + paper), right, row)

    def test_rows_that_lead_to_right_ones_only(self):
        # Each letter leads from all of these rows to one of the rows behind them; the first one is of another form.
        machine, cut = (2, ((0, 0), (1, 1), (2, 2)), ()), (0,)
        paper = split_paper(machine, cut)
        for sets, least in ((((0,), (0, 1)), ((0,),)), (((0,), (0,)), ((0,),)), (((1,), (0,)), ((0,), (1,))),
                            (((0, 1), (0, 1, 2), (1, 2)), ((0, 1), (1, 2))), (((0, 2), (0, 1)), ((0, 1), (0, 2))),
                            (((0, 1), (0, 2), (1,)), ((0, 2), (1,)))):
            for standing in (1, 2):
                self.assertIs(self.check(machine, cut, [(standing, least)] + paper), True)
                self.assertIs(self.check(machine, cut, [(standing, sets), (standing, least)] + paper), False, sets)

    def test_bad_rows(self):
        # The row more is led to itself only, and it is one of an end without a set of ends alone.
        machine, cut = (1, ((0,), (1,)), (1,)), (0,)
        self.assertEqual(split_paper(machine, cut), [(0, ((0,),))])
        for row, right in (((1, ()), False), ((1, ((0,),)), False), ((1, ((1,),)), True), ((1, ((0,), (1,))), True),
                           ((1, ((0, 1),)), False)):
            self.assertIs(self.check(machine, cut, [(0, ((0,),)), row]), right)

    def test_values_of_other_kinds(self):
        for machine, cut, paper in self.papers(199, 1)[::8]:
            for value in plain.any_values():
                for told in (value, [value], paper + [value], paper + [(0, value)], paper + [(value, ())],
                             paper + [(0, (value,))]):
                    self.check(machine, cut, told)

    def test_many_rows(self):
        machine, cut = (2, ((0, 1), (1, 1)), (1,)), (0,)
        paper = split_paper(machine, cut)
        self.assertIs(is_split_paper(machine, cut, paper * 9000), True)
        self.assertIs(is_split_paper(machine, cut, paper + [(0, ((0,),) * 90000)]), False)
        self.assertIs(is_split_paper(machine, cut, paper + [(0, ((0,), (1,)) * 50000)]), False)


class IdlePaper(unittest.TestCase):
    def test_there_is_one_exactly_if_the_cut_is_idle(self):
        found = {"first": 0, "second": 0, None: 0}
        for machine in MACHINES:
            for cut in plain.cuts(machine):
                told = idle_paper(machine, cut)
                self.assertEqual(told, plain_papers.idle_paper(machine, cut), (machine, cut))
                self.assertIs(told is not None, is_idle(machine, cut))
                found[told and told[0]] += 1
                if told:
                    self.assertEqual([type(told), type(told[0]), type(told[1])], [tuple, str, tuple])
                    self.assertIs(is_idle_paper(machine, cut, told), True)
        self.assertGreater(min(found.values()), 100)

    def test_told_papers(self):
        machine = (1, ((1,), (2,), (2,)), (1,))
        self.assertEqual([idle_paper(machine, cut) for cut in ((0,), (1,), (2,), (0, 1), (0, 2))],
                         [("first", (1, 2)), ("second", ((2,),)), ("second", ((2,),)), ("second", ((1, 2), (2,))),
                          ("second", ((1, 2), (2,)))])
        # Standing 0 is told if it is led to again, and the empty word alone does not count.
        self.assertEqual(idle_paper(plain.ring(2, ()), (0,)), ("second", ((0,), (1,))))
        self.assertIsNone(idle_paper(plain.ring(2, (0,)), (0,)))
        self.assertEqual(idle_paper((1, ((1,), (1,), (1,)), (1,)), (0, 2)), ("first", (1,)))
        # Both lots have no word of one letter or more: the first one is told.
        self.assertEqual(idle_paper((2, ((1, 1), (1, 1)), (0,)), (0,)), ("first", (1,)))


class OtherIdlePapers(unittest.TestCase):
    def check(self, machine, cut, value):
        right = plain_papers.is_idle_paper(machine, cut, value)
        self.assertIs(is_idle_paper(machine, cut, value), right, (machine, cut, value))
        return right

    def test_no_paper_for_a_cut_that_is_not_idle(self):
        rng = random.Random(201)
        papers = [idle_paper(machine, cut) for machine, cut in some_cuts(202, 4)]
        papers = sorted({paper for paper in papers if paper})
        found = {True: 0, False: 0}
        for machine, cut in some_cuts(203, 6):
            for value in rng.sample(papers, 4) + [("first", cut), ("second", tuple(plain.cuts(machine))),
                                                  ("first", tuple(range(len(machine[1]))))]:
                right = self.check(machine, cut, value)
                found[right] += 1
                if right:
                    self.assertIs(is_idle(machine, cut), True)
        self.assertGreater(min(found.values()), 100)

    def test_other_papers(self):
        rng = random.Random(204)
        found = {"first": 0, "second": 0, False: 0}
        for machine, cut in some_cuts(205, 8):
            paper = idle_paper(machine, cut)
            if paper is None:
                continue
            lot, told = paper
            others = plain.cuts(machine) if lot == "second" else list(range(len(machine[1])))
            values = [(lot, told[::-1]), (lot, told + told), (lot, tuple(sorted(told + (rng.choice(others),)))),
                      (lot, tuple(sorted(set(told) | set(rng.sample(others, min(2, len(others))))))),
                      (lot, tuple(rng.sample(others, min(3, len(others)))) + told), (lot, tuple(others)),
                      (lot, told[1:]), (lot, list(told)), [lot, told], (lot,), paper + (told,), (told, lot),
                      ({"first": "second", "second": "first"}[lot], told), ("third", told)]
            for _ in range(4):
                value = plain.changed(rng, paper)
                values += [value, plain.changed(rng, value)]
            for value in values:
                found[self.check(machine, cut, value) and lot] += 1
        self.assertGreater(min(found.values()), 100)

    def test_told_values(self):
        machine = (1, ((1,), (2,), (2,)), (1,))
        for cut, value, right in (
                ((0,), ("first", (1, 2)), True), ((0,), ("first", (2, 1)), False), ((0,), ("first", (1,)), False),
                ((0,), ("first", (0, 1, 2)), False), ((0,), ("first", (1, 1, 2)), False),
                ((0,), ("first", [1, 2]), False), ((0,), ("first", (True, 2)), False), ((0,), ["first", (1, 2)], False),
                ((0,), ("First", (1, 2)), False),
                ((1,), ("second", ((2,),)), True), ((1,), ("second", [(2,)]), False), ((1,), ("second", ([2],)), False),
                ((1,), ("second", ((2,), (2,))), True), ((1,), ("second", ()), False),
                ((1,), ("second", ((2,), ())), False),
                # More sets, in any order, but with what the letters lead them to, and none of ends alone.
                ((1,), ("second", ((2,), (0, 2), (1, 2))), True), ((1,), ("second", ((1, 2), (2,), (0, 2))), True),
                ((1,), ("second", ((0,), (2,))), False), ((1,), ("second", ((0, 2), (2,))), False),
                ((1,), ("second", ((1,), (2,))), False), ((1,), ("second", ((2, 1), (2,))), False),
                ((0, 1), ("second", ((2,), (1, 2))), True), ((0, 1), ("second", ((1, 2),)), False)):
            self.assertIs(self.check(machine, cut, value), right, (cut, value))
        # A standing more that is never led to.
        machine = (1, ((1,), (1,), (1,)), (1,))
        self.assertIs(self.check(machine, (0,), ("first", (1, 2))), True)
        self.assertIs(self.check(machine, (0, 2), ("first", (1, 2))), False)

    def test_values_of_other_kinds(self):
        for machine, cut in some_cuts(206, 1)[::8]:
            for value in plain.any_values():
                for told in (value, ("first", value), ("second", value), (value, (1,)), ("second", (value,)),
                             ("first",), ("first", (value,)), (value, value), ("second", ((0,), value))):
                    self.check(machine, cut, told)

    def test_many_sets(self):
        machine, cut = (1, ((1,), (2,), (2,)), (1,)), (1,)
        self.assertIs(is_idle_paper(machine, cut, ("second", ((2,),) * 90000)), True)
        self.assertIs(is_idle_paper(machine, cut, ("second", ((2,), (0,)) * 40000)), False)


class LiveWords(unittest.TestCase):
    def test_least_words_or_none(self):
        found = {True: 0, False: 0}
        lengths = {}
        for machine in MACHINES:
            for cut in plain.cuts(machine):
                told = live_words(machine, cut)
                self.assertEqual(told, plain_papers.live_words(machine, cut), (machine, cut))
                self.assertIs(told is None, is_idle(machine, cut))
                found[told is None] += 1
                if told:
                    self.assertEqual([type(told), type(told[0]), type(told[1])], [tuple, str, str])
                    for word in told:
                        lengths[len(word)] = lengths.get(len(word), 0) + 1
        self.assertGreater(min(found.values()), 300)
        self.assertGreater(min(lengths.get(length, 0) for length in (1, 2, 3, 4)), 10)

    def test_held_against_short_words(self):
        for machine, cut in some_cuts(207, 6):
            told = live_words(machine, cut)
            short = plain.short_words(machine)[1:]
            for at, holds in enumerate((plain.in_first, plain.in_second)):
                least = next((word for word in short if holds(machine, cut, word)), None)
                if told and least:
                    self.assertEqual(told[at], least)
                elif told:
                    self.assertNotIn(told[at], short)
                    self.assertTrue(holds(machine, cut, told[at]))

    def test_told_words(self):
        self.assertEqual(live_words((2, ((0, 1), (1, 1)), (1,)), (0,)), ("a", "b"))
        self.assertEqual(live_words((1, ((1,), (2,), (2,)), (1,)), (0,)), None)
        self.assertEqual(live_words(plain.ring(5, (2,)), (0,)), ("aaaaa", "aa"))
        self.assertEqual(live_words(plain.ring(5, (0,)), (0,)), ("aaaaa", "aaaaa"))


class Refusals(unittest.TestCase):
    MACHINE = (2, ((0, 1), (1, 1)), (1,))

    def test_wrong_arguments(self):
        for value in plain.any_values():
            for asked in ASKED + (lambda machine, cut: is_split_paper(machine, cut, value),
                                  lambda machine, cut: is_idle_paper(machine, cut, value)):
                for cut in ((0,), None, value):
                    with self.assertRaises(NoMachine):
                        asked(value, cut)
                for machine in (self.MACHINE, plain.ring(6, (0,), 2)):
                    if not plain.is_cut(machine, value):
                        with self.assertRaises(NoCut):
                            asked(machine, value)

    def test_more_than_five_standings(self):
        for machine in (plain.ring(6, (0,)), plain.row(7, (5,), 2), plain.ring(32, (3,), 3), plain.ring(6, ())):
            for asked in ASKED + (lambda machine, cut: is_split_paper(machine, cut, None),
                                  lambda machine, cut: is_idle_paper(machine, cut, [])):
                for cut in ((0,), (5,), (0, 3)):
                    with self.assertRaises(TooMany) as error:
                        asked(machine, cut)
                    self.assertEqual(error.exception.limit, 5)

    def test_told_papers_are_new_ones(self):
        for machine, cut in some_cuts(208, 2):
            told = split_paper(machine, cut)
            if told is not None:
                right = list(told)
                told.reverse()
                told.append(None)
                self.assertEqual(split_paper(machine, cut), right)
                told.clear()
                self.assertEqual(split_paper(machine, cut), right)
                self.assertIs(is_split_paper(machine, cut, told), False)


if __name__ == "__main__":
    unittest.main()
