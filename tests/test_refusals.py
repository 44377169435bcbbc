"""Which error is due first, and that nothing is changed or kept."""

import copy
import itertools
import unittest

from seamlots import chains, cuts, inner, lengths, machines, papers, patterns, products, records, smallest, stars
from seamlots import threes, told, widened
from seamlots.wrongs import NoChain, NoCut, NoLengths, NoLetters, NoMachine, NoPattern, NoRecord, NotAlike, NotClosed
from seamlots.wrongs import NoWord, SeamError, TooMany
from tests import plain, plain_papers

FEW = (2, ((0, 1), (1, 1)), (1,))
FOUR = (2, ((1, 2), (2, 3), (3, 0), (0, 1)), (0, 3))
FIVE = (2, ((1, 2), (2, 3), (3, 4), (4, 0), (0, 1)), (0, 3))
SIX = (2, ((1, 2), (2, 3), (3, 4), (4, 5), (5, 0), (0, 1)), (0, 3))
GREAT = plain.ring(32, (0, 7), 2)
OTHER_LETTERS = (1, ((1,), (0,)), (0,))
GREAT_OTHER_LETTERS = plain.ring(32, (0, 7), 3)

NO_MACHINES = [None, [], (), "ab", 3, True, (2, ((0, 1), (1, 1)), [1]), (2, ((0, True), (1, 1)), (1,)),
               plain.nested(29, list), (2, ((0, 1), (1, 2)), (1,)), [2, ((0, 1), (1, 1)), (1,)]]
NO_CUTS = [None, [], (), "0", 0, True, [0], (1, 0), (0, 0), (True,), (0, 99), (-1,), plain.nested(29), ([0],)]
NO_WORDS = [None, [], (), 0, True, ["a"], ("a",), "c", "abc", "A", "a b", plain.nested(29, list)]

NO_LETTERS = [None, 0, 4, -1, True, False, "1", "a", (1,), [2], 10 ** 30, plain.nested(29)]
NO_PATTERNS = [None, [], (), "a", 0, True, ("word",), ["word", "a"], ("word", "d"), ("word", "a" * 31), ("not", "a"),
               ("or", ("word", "a")), ("then", ("word", "a"), None), (("word", "a"),), plain.nested(29),
               ("word", "A"), ("not", ("not", ("not", ("not", ("not", ("not", ("not", ("not", ("word", "a")))))))))]
NO_LENGTHS = [None, [], (), 0, True, "0", [0], (1,), (0, 0), (0, 41), (0, 2, 1), (False,), (0, True), (0, -1),
              tuple(range(9)), plain.nested(29), ((0,),)]
NO_CHAINS = [None, [], (), 0, True, "0", (0,), (0, 1), ((),), [(0,)], ([0],), ((0,), (99,)), ((0,),) * 5, ((True,),),
             ((0,), None), (((0,),),), plain.nested(29)]

# Each function with its kinds of arguments and with the most standings that its machine may have; None where it has
# no machine.
ASKED = [
    (machines.is_word, ("machine", "value"), 32),
    (machines.standing_of, ("machine", "word"), 32),
    (machines.takes, ("machine", "word"), 32),
    (smallest.parting_word, ("machine", "other"), 32),
    (smallest.smallest, ("machine",), 32),
    (cuts.is_cut, ("machine", "value"), 5),
    (cuts.first_lot, ("machine", "cut"), 5),
    (cuts.second_lot, ("machine", "cut"), 5),
    (cuts.is_idle, ("machine", "cut"), 5),
    (cuts.cuttings, ("machine", "cut", "word"), 5),
    (cuts.failing_word, ("machine", "cut"), 5),
    (products.splitting_cuts, ("machine",), 5),
    (products.is_product, ("machine",), 5),
    (products.no_product, ("machine",), 5),
    (products.is_no_product, ("machine", "value"), 5),
    (widened.widened, ("machine", "cut"), 5),
    (widened.closed_cuts, ("machine",), 5),
    (widened.double_word, ("machine", "cut"), 5),
    (told.reached_by, ("machine", "other"), 5),
    (told.rest_of, ("machine", "other"), 5),
    (told.head_of, ("machine", "other"), 5),
    (told.lacking_word, ("machine", "other"), 5),
    (threes.middle_lot, ("machine", "cut", "cut"), 4),
    (threes.failing_three, ("machine", "cut", "cut"), 4),
    (threes.three_cuts, ("machine",), 4),
    (stars.starred, ("machine",), 5),
    (stars.is_closed, ("machine",), 5),
    (stars.open_pair, ("machine",), 5),
    (stars.root_of, ("closed",), 5),
    (patterns.is_pattern, ("letters", "value"), None),
    (patterns.machine_of, ("letters", "pattern"), None),
    (lengths.is_lengths, ("value",), None),
    (lengths.sums, ("lengths", "lengths"), None),
    (lengths.sum_pairs, ("lengths",), None),
    (inner.inner_places, ("machine", "cut", "word"), 5),
    (inner.failing_inner, ("machine", "cut"), 5),
    (inner.inner_cuts, ("machine",), 5),
    (inner.no_inner, ("machine",), 5),
    (inner.is_no_inner, ("machine", "value"), 5),
    (chains.way_of, ("machine", "cut", "cut"), 5),
    (chains.is_chain, ("machine", "value"), 32),
    (chains.failing_chain, ("machine", "chain"), 3),
    (papers.split_paper, ("machine", "cut"), 5),
    (papers.is_split_paper, ("machine", "cut", "value"), 5),
    (papers.idle_paper, ("machine", "cut"), 5),
    (papers.is_idle_paper, ("machine", "cut", "value"), 5),
    (papers.live_words, ("machine", "cut"), 5),
]
MACHINE_FIRST = [row for row in ASKED if row[1][0] in ("machine", "closed")]

# For each kind of argument its right values, and its wrong ones with the error that is due for them.
RIGHT = {"machine": [FEW, FOUR, FIVE, SIX, GREAT], "other": [FEW, SIX, GREAT, (2, ((0, 0),), ())],
         "closed": [(2, ((0, 0),), (0,)), plain.ring(5, (0,), 2), SIX, GREAT],
         "cut": [(0,), (1,), (0, 1)], "word": ["", "a", "abba"],
         "value": [None, "a", "c", (0,), [0], [], [((0,), "a")], ("word", "a"), [(0, ((0,),))], ("first", (1,))],
         "chain": [((0,),), ((0, 1), (1,)), ((1,),) * 4], "letters": [1, 2, 3],
         "pattern": [("word", ""), ("many", ("word", "aaaa")), ("then", ("word", "a" * 28), ("word", "aa"))],
         "lengths": [(0,), (0, 1), (0, 1, 2, 3), (0, 5, 6, 7, 8, 9, 10, 40)]}
WRONG = {"machine": (NO_MACHINES, NoMachine), "other": (NO_MACHINES, NoMachine), "closed": (NO_MACHINES, NoMachine),
         "cut": (NO_CUTS, NoCut), "word": (NO_WORDS, NoWord), "value": ([], None), "chain": (NO_CHAINS, NoChain),
         "letters": (NO_LETTERS, NoLetters), "pattern": (NO_PATTERNS, NoPattern), "lengths": (NO_LENGTHS, NoLengths)}
RIGHT_ONES = {"cut": (0,), "word": "a", "value": None, "other": FEW, "chain": ((0,),)}


def is_beyond(most, arguments):
    """True if the first argument is a machine with too many standings."""
    return most is not None and len(arguments[0][1]) > most


class Refusals(unittest.TestCase):
    def refused(self, asked, arguments):
        before = copy.deepcopy(arguments)
        with self.assertRaises(SeamError) as refusal:
            asked(*arguments)
        self.assertEqual(repr(arguments), repr(before))
        return refusal.exception

    def rows(self, names):
        """All rows of right and wrong arguments, each argument with the error that is due for it, or None."""
        return itertools.product(*[[(value, None) for value in RIGHT[name]] + [
            (value, WRONG[name][1]) for value in WRONG[name][0]] for name in names])

    def test_the_first_wrong_argument_tells_the_error_and_the_bound_comes_behind(self):
        for asked, names, most in ASKED:
            counted = {"refused": 0, "bounded": 0, "told": 0}
            for row in self.rows(names):
                errors = [error for _, error in row if error]
                arguments = [value for value, _ in row]
                with self.subTest(asked.__name__, arguments=arguments):
                    if errors:
                        counted["refused"] += 1
                        self.assertIs(type(self.refused(asked, arguments)), errors[0])
                    elif is_beyond(most, arguments):
                        counted["bounded"] += 1
                        error = self.refused(asked, arguments)
                        self.assertIs(type(error), TooMany)
                        self.assertEqual(error.limit, most)
                    else:
                        counted["told"] += 1
                        asked(*arguments)
            self.assertEqual(counted["refused"] > 0, names != ("value",))
            self.assertEqual(counted["bounded"] > 0, (most or 32) < 32)
            self.assertGreater(counted["told"], 1)

    def test_bounds(self):
        for asked, names, most in MACHINE_FIRST:
            for many in range(1, 33):
                machine = plain.ring(many, (0,), 2)
                rest = [RIGHT_ONES[name] for name in names[1:]]
                if many <= most:
                    asked(machine, *rest)
                else:
                    error = self.refused(asked, [machine] + rest)
                    self.assertIs(type(error), TooMany)
                    self.assertEqual(error.limit, most)
                    self.assertIs(type(error.limit), int)

    def test_any_values_for_each_argument(self):
        for asked, names, _ in ASKED:
            right = [RIGHT[name][0] for name in names]
            for at, name in enumerate(names):
                fits = {"letters": lambda value: type(value) is int and 0 < value < 4, "value": lambda value: True,
                        "chain": lambda value: plain_papers.is_chain(FEW, value)}.get(name, lambda value: False)
                for value in plain.any_values():
                    if not fits(value):
                        with self.assertRaises(WRONG[name][1]):
                            asked(*right[:at], value, *right[at + 1:])

    def test_the_word_is_one_of_the_machine(self):
        for asked in (machines.standing_of, machines.takes):
            self.assertIs(type(self.refused(asked, [OTHER_LETTERS, "b"])), NoWord)
        for asked in (cuts.cuttings, inner.inner_places):
            self.assertIs(type(self.refused(asked, [OTHER_LETTERS, (0,), "b"])), NoWord)
            self.assertIs(type(self.refused(asked, [OTHER_LETTERS, (2,), "b"])), NoCut)

    def test_patterns_are_of_the_letters(self):
        for letters, letter in ((1, "b"), (1, "c"), (2, "c")):
            self.assertIs(type(self.refused(patterns.machine_of, [letters, ("word", letter)])), NoPattern)

    def test_not_closed_behind_no_machine_and_too_many(self):
        for machine in (FEW, FOUR, FIVE, plain.row(5, (0, 1)), (2, ((0, 0),), ())):
            self.assertIs(type(self.refused(stars.root_of, [machine])), NotClosed)
        for machine in (SIX, GREAT, plain.row(6, (0, 1))):
            self.assertIs(type(self.refused(stars.root_of, [machine])), TooMany)

    def test_chains_are_of_the_machine_and_ahead_of_the_bound(self):
        for machine, cut in ((FEW, (2,)), (FOUR, (4,)), (FIVE, (0, 5)), (SIX, (6,)), (GREAT, (32,))):
            for chain in ((cut,), ((0,), cut), (cut, (0,)), ((0,), (0,), (0,), cut)):
                self.assertIs(type(self.refused(chains.failing_chain, [machine, chain])), NoChain)

    def test_the_judge_refuses_what_is_no_record_only(self):
        for value in NO_MACHINES + NO_PATTERNS + NO_LENGTHS + NO_CHAINS + NO_CUTS + [("same", FEW), ("open",)]:
            self.assertIs(type(self.refused(records.judge, [value])), NoRecord)
            for form, length in plain_papers.FORMS.items():
                self.assertEqual(records.judge((form,) + (value,) * (length - 1)), ("wrong", 0))

    def test_cuts_are_of_the_machine(self):
        for asked in [row[0] for row in ASKED if row[1] == ("machine", "cut")]:
            for machine, cut in ((FEW, (2,)), (FEW, (0, 2)), (FOUR, (4,)), (FIVE, (0, 5)), (SIX, (6,)), (GREAT, (32,))):
                self.assertIs(type(self.refused(asked, [machine, cut])), NoCut)
        for asked in (threes.middle_lot, threes.failing_three, chains.way_of):
            for machine, cut in ((FEW, (2,)), (FEW, (0, 2)), (FOUR, (4,)), (FIVE, (0, 5)), (SIX, (6,)), (GREAT, (32,))):
                for arguments in ([machine, cut, (0,)], [machine, (0,), cut], [machine, cut, cut]):
                    self.assertIs(type(self.refused(asked, arguments)), NoCut)

    def test_other_numbers_of_letters_behind_no_machine_and_ahead_of_the_bound(self):
        for asked, names, _ in ASKED:
            if names == ("machine", "other"):
                for one in (FEW, FOUR, FIVE, SIX, GREAT):
                    for other in (OTHER_LETTERS, GREAT_OTHER_LETTERS):
                        self.assertIs(type(self.refused(asked, [one, other])), NotAlike)
                        self.assertIs(type(self.refused(asked, [other, one])), NotAlike)
                    # What is no machine has no number of letters that could be another one.
                    for wrong in ((1, ((0, 0),), ()), (1, ((5,),), ()), (1, (), ()), (3, ((0, 0),), ())):
                        self.assertIs(type(self.refused(asked, [one, wrong])), NoMachine)
                        self.assertIs(type(self.refused(asked, [wrong, one])), NoMachine)

    def test_five_and_four_standings_are_not_too_many(self):
        for cut in plain.cuts(FIVE):
            self.assertIs(cuts.is_cut(FIVE, cut), True)
            for asked in (cuts.first_lot, cuts.second_lot, cuts.is_idle, cuts.failing_word, widened.widened,
                          widened.double_word):
                asked(FIVE, cut)
            cuts.cuttings(FIVE, cut, "abab")
        for cut, later in itertools.product(plain.cuts(FOUR), repeat=2):
            threes.middle_lot(FOUR, cut, later)
            threes.failing_three(FOUR, cut, later)


class Kept(unittest.TestCase):
    def test_right_arguments_are_not_changed_and_answers_stay(self):
        for asked, names, most in ASKED:
            for arguments in itertools.product(*[RIGHT[name] for name in names]):
                if not is_beyond(most, arguments):
                    before = copy.deepcopy(arguments)
                    answer = asked(*arguments)
                    self.assertEqual(asked(*arguments), answer)
                    self.assertEqual(asked(*before), answer)
                    self.assertEqual(arguments, before)
                    self.assertEqual(repr(arguments), repr(before))

    def test_values_with_lists_are_not_changed(self):
        value = [2, [[0, 1], [1, 1]], [1], "a", (0, [1])]
        before = copy.deepcopy(value)
        self.assertIs(machines.is_machine(value), False)
        self.assertIs(machines.is_machine((2, value, value)), False)
        self.assertIs(machines.is_word(FEW, value), False)
        self.assertIs(cuts.is_cut(FEW, value), False)
        self.assertIs(products.is_no_product(FEW, value), False)
        self.assertEqual(value, before)
        self.assertEqual(repr(value), repr(before))

    def test_papers_are_not_changed(self):
        for machine in plain.PRIMES:
            paper = products.no_product(machine)
            for value in (paper, paper[::-1], paper[:-1], paper + paper, [list(row) for row in paper]):
                before = copy.deepcopy(value)
                self.assertIs(products.is_no_product(machine, value), value == paper)
                self.assertEqual(repr(value), repr(before))

    def test_a_told_list_is_a_new_one_each_time(self):
        for word in ("", "a", "ab", "aba", "abbb"):
            for cut in plain.cuts(FEW):
                answer = cuts.cuttings(FEW, cut, word)
                right = plain.cuttings(FEW, cut, word)
                self.assertEqual(answer, right)
                answer.append(99)
                again = cuts.cuttings(FEW, cut, word)
                self.assertIsNot(again, answer)
                self.assertEqual(again, right)

    def test_told_lists_of_products_widened_and_threes_are_new_ones(self):
        every = (2, ((0, 0),), (0,))
        for machine in [every, FEW, FOUR, FIVE, plain.row(4, (1, 2)), plain.row(4, (), 3)] + plain.PRIMES:
            for asked in (products.splitting_cuts, products.no_product, widened.closed_cuts, threes.three_cuts):
                if asked is threes.three_cuts and len(machine[1]) > 4:
                    continue
                answer = asked(machine)
                right = copy.deepcopy(answer)
                if answer is not None:
                    self.assertIs(type(answer), list)
                    self.assertIsNot(asked(machine), answer)
                    answer.reverse()
                    answer.append(99)
                    del answer[0]
                    self.assertEqual(asked(machine), right)
                    answer.clear()
                    self.assertEqual(asked(machine), right)
        # A changed paper is a value like any other one: what was told stays as it was.
        paper = products.no_product(plain.PRIMES[-1])
        paper.pop()
        self.assertIs(products.is_no_product(plain.PRIMES[-1], paper), False)
        self.assertIs(products.is_no_product(plain.PRIMES[-1], products.no_product(plain.PRIMES[-1])), True)

    def test_each_told_list_is_a_new_one(self):
        lists = {}
        for asked, names, most in ASKED:
            for arguments in itertools.product(*[RIGHT[name] for name in names]):
                answer = None if is_beyond(most, arguments) else asked(*arguments)
                if isinstance(answer, list):
                    lists[asked.__name__] = True
                    right = copy.deepcopy(answer)
                    self.assertIsNot(asked(*arguments), answer)
                    answer.append(99)
                    answer.reverse()
                    del answer[-1:]
                    self.assertEqual(asked(*arguments), right)
                    answer.clear()
                    self.assertEqual(asked(*arguments), right)
        self.assertEqual(sorted(lists), [
            "closed_cuts", "cuttings", "inner_cuts", "inner_places", "no_inner", "split_paper", "splitting_cuts",
            "sum_pairs", "three_cuts"])

    def test_no_lists_where_tuples_are_told(self):
        answers = [smallest.smallest(FIVE), cuts.first_lot(FIVE, (0, 1)), cuts.second_lot(FIVE, (0, 1)),
                   widened.widened(FIVE, (0, 1)), told.reached_by(FIVE, SIX), told.rest_of(FIVE, SIX),
                   told.head_of(FIVE, SIX), threes.middle_lot(FOUR, (0, 1), (1, 2)), stars.starred(FIVE),
                   stars.root_of(plain.ring(5, (0,))), lengths.sums((0, 1), (0, 3)), chains.way_of(FIVE, (0, 1), (3,))]
        answers += lengths.sum_pairs((0, 1, 2, 3)) + inner.inner_cuts(plain.row(5, (2, 3)))
        answers += papers.split_paper(FEW, (0,))
        for answer in answers + products.splitting_cuts(FIVE) + widened.closed_cuts(FIVE) + threes.three_cuts(FOUR):
            for place in plain.places(answer):
                self.assertIn(type(plain.part_at(answer, place)), (int, tuple))

    def test_answers_after_refusals(self):
        for asked, names, most in ASKED:
            arguments = [RIGHT[name][0] for name in names]
            answer = asked(*arguments)
            great = [GREAT] * (most is not None and most < 32)
            for wrong in WRONG[names[0]][0] + great:
                with self.assertRaises(SeamError):
                    asked(wrong, *arguments[1:])
                self.assertEqual(asked(*arguments), answer)


if __name__ == "__main__":
    unittest.main()
