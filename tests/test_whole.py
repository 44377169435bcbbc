"""Point 3, and machines told otherwise: all answers change as they should, and no more."""

import itertools
import random
import unittest

from seamlots import chains, cuts, inner, machines, papers, products, smallest, stars, threes, told, widened
from tests import plain, plain_made, plain_papers

MACHINES = plain.lot_machines()


def numbered(machine, numbers):
    """The machine with the standing numbers[k] in the place of each standing k."""
    letters, moves, ends = machine
    rows = [None] * len(moves)
    for standing, row in enumerate(moves):
        rows[numbers[standing]] = tuple(numbers[to] for to in row)
    return letters, tuple(rows), tuple(sorted(numbers[end] for end in ends))


def lettered(machine, order):
    """The machine in which the letter order[k] leads as the letter k of the other one does."""
    rows = []
    for row in machine[1]:
        other = [None] * machine[0]
        for number, to in enumerate(row):
            other[order[number]] = to
        rows.append(tuple(other))
    return machine[0], tuple(rows), machine[2]


class Whole(unittest.TestCase):
    def test_a_cut_that_splits_or_a_word_for_each_cut(self):
        found = {True: 0, False: 0}
        for machine in MACHINES:
            splitting = products.splitting_cuts(machine)
            found[len(splitting) > 0] += 1
            self.assertIs(products.is_product(machine), len(splitting) > 0)
            for cut in splitting:
                first, second = cuts.first_lot(machine, cut), cuts.second_lot(machine, cut)
                for lot in (first, second):
                    self.assertTrue(plain_papers.standings_behind(lot) & set(lot[2]))
                # All words of the one with all words of the other behind them, however long they are.
                try:
                    made = plain_made.behind(first, second)
                except plain.TooGreat:
                    self.fail("the lots make other words")
                self.assertEqual(made, plain_made.least_of(machine), (machine, cut))
            paper = products.no_product(machine)
            self.assertIs(paper is None, len(splitting) > 0)
            if paper is not None:
                self.assertEqual([cut for cut, _ in paper], list(plain.cuts_not_idle(machine)))
                for cut, word in paper:
                    self.assertTrue(plain.takes(machine, word))
                    self.assertEqual(plain.cuttings(machine, cut, word), [])
        self.assertGreater(min(found.values()), 60)

    def test_drawn_lots_make_products(self):
        """What is made of two lots, each with a word that is not empty, is a product, however it is told."""
        rng = random.Random(221)
        found = 0
        while found < 150:
            letters = rng.randrange(1, 4)
            one, other = [plain.some_machine(rng, letters, rng.randrange(1, 5)) for _ in range(2)]
            if not all(plain_papers.standings_behind(lot) & set(lot[2]) for lot in (one, other)):
                continue
            try:
                made = plain_made.behind(one, other)
            except plain.TooGreat:
                continue
            if len(made[1]) <= 5:
                found += 1
                for machine in (made, plain.renumbered(rng, made)):
                    self.assertIs(products.is_product(machine), True, machine)
                    self.assertIs(products.is_no_product(machine, []), False)

    def test_machines_of_few_words(self):
        """All pairs of lots are gone through; all words of three letters and fewer of one and two letters."""
        rng = random.Random(222)
        found = {True: 0, False: 0}
        for _ in range(400):
            letters = rng.choice((1, 2, 2, 3))
            moves = tuple(tuple(rng.choice((at + 1, at + 1, 4)) for _ in range(letters)) for at in range(4)) + (
                (4,) * letters,)
            machine = letters, moves, tuple(sorted(rng.sample(range(4), rng.randrange(1, 4))))
            taken = {word for word in plain.words(letters, 4) if plain.takes(machine, word)}
            if len(taken) > 8:
                continue
            right = self.two_lots(taken)
            found[right] += 1
            self.assertIs(products.is_product(machine), right, machine)
        self.assertGreater(min(found.values()), 60)

    def two_lots(self, taken):
        aheads = sorted({word[:at] for word in taken for at in range(len(word) + 1)})
        # The second lot is the greatest one that can stand behind the first one.
        for many in range(1, min(len(aheads), 4) + 1):
            for first in itertools.combinations(aheads, many):
                second = set.intersection(*[{word[len(ahead):] for word in taken if word.startswith(ahead)}
                                            for ahead in first])
                if any(first) and any(second) and {one + other for one in first for other in second} == taken:
                    return True
        return self.two_lots_of_more(taken, aheads)

    def two_lots_of_more(self, taken, aheads):
        behinds = sorted({word[at:] for word in taken for at in range(len(word) + 1)})
        for many in range(1, len(behinds) + 1):
            for second in itertools.combinations(behinds, many):
                if many > 4:
                    break
                first = {ahead for ahead in aheads if all(ahead + word in taken for word in second)}
                if any(first) and any(second) and {one + other for one in first for other in second} == taken:
                    return True
        # Two lots with five words or more each make nine words or more.
        return False


class NumberedOtherwise(unittest.TestCase):
    def test_all_answers(self):
        rng = random.Random(223)
        for machine in MACHINES:
            numbers = [0] + rng.sample(range(1, len(machine[1])), len(machine[1]) - 1)
            other = numbered(machine, numbers)

            def to(cut):
                return tuple(sorted(numbers[standing] for standing in cut))
            self.whole(machine, other, to)
            some = rng.sample(plain.cuts(machine), min(3, 2 ** len(machine[1]) - 1))
            for cut in some:
                self.of_a_cut(rng, machine, other, cut, to, numbers)
            self.of_two_cuts(machine, other, some[0], some[-1], to)
            first = rng.choice([first for first in MACHINES if first[0] == machine[0]])
            self.assertEqual(told.reached_by(other, first), to(told.reached_by(machine, first)))
            for asked in (told.rest_of, told.head_of, told.lacking_word):
                self.assertEqual(asked(other, first), asked(machine, first))
                self.assertEqual(asked(first, other), asked(first, machine))

    def whole(self, machine, other, to):
        for asked in (smallest.smallest, products.is_product, stars.starred, stars.is_closed):
            self.assertEqual(asked(other), asked(machine))
        for asked in (products.splitting_cuts, widened.closed_cuts, inner.inner_cuts):
            self.assertEqual(asked(other), sorted(to(cut) for cut in asked(machine)))
        for asked in (products.no_product, inner.no_inner):
            paper = asked(machine)
            right = None if paper is None else sorted((to(cut), word) for cut, word in paper)
            self.assertEqual(asked(other), right)
        if stars.is_closed(machine):
            self.assertEqual(stars.root_of(other), stars.root_of(machine))
        if len(machine[1]) <= 4:
            self.assertEqual(threes.three_cuts(other), sorted((to(cut), to(later))
                                                              for cut, later in threes.three_cuts(machine)))

    def of_a_cut(self, rng, machine, other, cut, to, numbers):
        for asked in (cuts.first_lot, cuts.second_lot, cuts.is_idle, cuts.failing_word, widened.double_word,
                      inner.failing_inner, papers.live_words):
            self.assertEqual(asked(other, to(cut)), asked(machine, cut))
        self.assertEqual(widened.widened(other, to(cut)), to(widened.widened(machine, cut)))
        for word in rng.sample(plain.short_words(machine), 4):
            self.assertEqual(machines.standing_of(other, word), numbers[machines.standing_of(machine, word)])
            for asked in (cuts.cuttings, inner.inner_places):
                self.assertEqual(asked(other, to(cut), word), asked(machine, cut, word))
        paper = papers.split_paper(machine, cut)
        right = paper and sorted((numbers[standing], tuple(sorted(map(to, sets)))) for standing, sets in paper)
        self.assertEqual(papers.split_paper(other, to(cut)), right)
        paper = papers.idle_paper(machine, cut)
        if paper is None:
            self.assertIsNone(papers.idle_paper(other, to(cut)))
        else:
            lot, value = paper
            right = (lot, to(value) if lot == "first" else tuple(sorted(map(to, value))))
            self.assertEqual(papers.idle_paper(other, to(cut)), right)

    def of_two_cuts(self, machine, other, cut, later, to):
        self.assertEqual(chains.way_of(other, to(cut), to(later)), chains.way_of(machine, cut, later))
        if len(machine[1]) <= 4:
            for asked in (threes.middle_lot, threes.failing_three):
                self.assertEqual(asked(other, to(cut), to(later)), asked(machine, cut, later))
        if len(machine[1]) <= 3:
            for chain in ((cut,), (cut, later, cut), (later, later, cut, cut)):
                right = chains.failing_chain(machine, chain)
                self.assertEqual(chains.failing_chain(other, tuple(map(to, chain))), right)


class ToldWithMoreStandings(unittest.TestCase):
    """Standings doubled, or never reached: what the words tell stays."""

    def lots(self, machine):
        return sorted((cuts.first_lot(machine, cut), cuts.second_lot(machine, cut))
                      for cut in widened.closed_cuts(machine))

    def test_what_the_words_tell(self):
        rng = random.Random(224)
        for machine in MACHINES:
            if len(machine[1]) == 5:
                continue
            first = rng.choice([first for first in MACHINES if first[0] == machine[0]])
            for other in (plain.doubled(rng, machine), plain.with_unreached(rng, machine)):
                self.assertIsNone(smallest.parting_word(machine, other))
                for asked in (smallest.smallest, products.is_product, stars.starred, stars.is_closed):
                    self.assertEqual(asked(other), asked(machine), (machine, other))
                if stars.is_closed(machine):
                    self.assertEqual(stars.root_of(other), stars.root_of(machine))
                self.assertIs(stars.open_pair(other) == (), stars.open_pair(machine) == ())
                self.assertIs(len(inner.inner_cuts(other)) > 0, len(inner.inner_cuts(machine)) > 0)
                self.assertIs(inner.no_inner(other) is None, inner.no_inner(machine) is None)
                for asked in (told.rest_of, told.head_of, told.lacking_word):
                    self.assertEqual(asked(other, first), asked(machine, first))
                    self.assertEqual(asked(first, other), asked(first, machine))
                self.assertEqual(told.reached_by(first, other), told.reached_by(first, machine))

    def test_cuts_of_the_standings_that_are_reached(self):
        rng = random.Random(225)
        for machine in MACHINES:
            if len(machine[1]) == 5:
                continue
            other = plain.with_unreached(rng, machine)
            for cut in rng.sample(plain.cuts(machine), min(4, 2 ** len(machine[1]) - 1)):
                for asked in (cuts.first_lot, cuts.second_lot, cuts.is_idle, cuts.failing_word, widened.double_word,
                              inner.failing_inner, papers.live_words, papers.split_paper, papers.idle_paper):
                    self.assertEqual(asked(other, cut), asked(machine, cut))
                wide = set(widened.widened(other, cut)) - {len(machine[1])}
                self.assertEqual(wide, set(widened.widened(machine, cut)))

    def test_closed_cuts_of_doubled_standings_have_the_same_lots(self):
        rng = random.Random(226)
        compared = 0
        for machine in MACHINES:
            least = smallest.smallest(machine)
            if len(least[1]) < 5:
                other = plain.renumbered(rng, plain.doubled(rng, least))
                self.assertEqual(self.lots(other), self.lots(least))
                compared += len(self.lots(least)) > 0
        self.assertGreater(compared, 40)


class LettersExchanged(unittest.TestCase):
    def test_all_answers(self):
        rng = random.Random(227)
        for machine in MACHINES:
            if machine[0] == 1:
                continue
            order = rng.choice(list(itertools.permutations(range(machine[0])))[1:])
            other = lettered(machine, order)
            self.whole(machine, other, order)
            some = rng.sample(plain.cuts(machine), min(3, 2 ** len(machine[1]) - 1))
            for cut in some:
                self.of_a_cut(rng, machine, other, cut, order)
            self.assertEqual(chains.way_of(other, some[0], some[-1]),
                             smallest.smallest(lettered(chains.way_of(machine, some[0], some[-1]), order)))

    def word(self, word, order):
        return "".join("abc"[order["abc".index(letter)]] for letter in word)

    def length(self, word):
        return None if word is None else len(word)

    def whole(self, machine, other, order):
        for asked in (products.splitting_cuts, products.is_product, widened.closed_cuts, stars.is_closed,
                      inner.inner_cuts):
            self.assertEqual(asked(other), asked(machine))
        for asked in (smallest.smallest, stars.starred):
            self.assertEqual(asked(other), smallest.smallest(lettered(asked(machine), order)))
        if stars.is_closed(machine):
            self.assertEqual(stars.root_of(other), smallest.smallest(lettered(stars.root_of(machine), order)))
        for asked, is_paper in ((products.no_product, products.is_no_product), (inner.no_inner, inner.is_no_inner)):
            paper = asked(machine)
            if paper is not None:
                self.assertIs(is_paper(other, [(cut, self.word(word, order)) for cut, word in paper]), True)
                right = [(cut, len(word)) for cut, word in paper]
                self.assertEqual([(cut, len(word)) for cut, word in asked(other)], right)
        if len(machine[1]) <= 4:
            self.assertEqual(threes.three_cuts(other), threes.three_cuts(machine))

    def of_a_cut(self, rng, machine, other, cut, order):
        for asked in (widened.widened, cuts.is_idle, papers.split_paper, papers.idle_paper):
            self.assertEqual(asked(other, cut), asked(machine, cut))
        for asked in (cuts.first_lot, cuts.second_lot):
            self.assertEqual(asked(other, cut), smallest.smallest(lettered(asked(machine, cut), order)))
        for asked in (cuts.failing_word, widened.double_word, inner.failing_inner):
            self.assertEqual(self.length(asked(other, cut)), self.length(asked(machine, cut)))
        live, told_live = papers.live_words(machine, cut) or (), papers.live_words(other, cut) or ()
        self.assertEqual([len(word) for word in told_live], [len(word) for word in live])
        for word in rng.sample(plain.short_words(machine), 4):
            for asked in (cuts.cuttings, inner.inner_places):
                self.assertEqual(asked(other, cut, self.word(word, order)), asked(machine, cut, word))
        if len(machine[1]) <= 3:
            for chain in ((cut,), (cut, cut, (0,))):
                self.assertEqual(self.length(chains.failing_chain(other, chain)),
                                 self.length(chains.failing_chain(machine, chain)))


if __name__ == "__main__":
    unittest.main()
