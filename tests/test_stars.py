"""Point 15: stars, closed machines, open pairs and roots."""

import random
import unittest

from seamlots.smallest import smallest
from seamlots.stars import is_closed, open_pair, root_of, starred
from seamlots.wrongs import NoMachine, NotClosed, TooMany
from tests import plain, plain_made

MACHINES = plain_made.star_machines()
STARS = {machine: plain_made.starred(machine) for machine in MACHINES}
LONGEST = {1: 12, 2: 6, 3: 4}
ASKED = (starred, is_closed, open_pair, root_of)


def taken(machine, longest):
    return {word for word in plain.words(machine[0], longest) if plain.takes(machine, word)}


def plain_root(machine, longest):
    """All words that are not longer, taken, not empty, and not made of two such words."""
    told = taken(machine, longest) - {""}
    return told - {one + other for one in told for other in told}


class Starred(unittest.TestCase):
    def test_held_against_many_words_at_once(self):
        many = set()
        for machine in MACHINES:
            told = starred(machine)
            self.assertEqual(told, STARS[machine], machine)
            self.assertTrue(plain.is_machine(told))
            self.assertTrue(plain.is_smallest(told))
            many.add(len(told[1]))
        self.assertLessEqual({1, 2, 3, 4, 5, 6, 7}, many)

    def test_held_against_short_words(self):
        for machine in MACHINES:
            longest = LONGEST[machine[0]]
            told = starred(machine)
            self.assertEqual(taken(told, longest), plain_made.short_star(taken(machine, longest), longest), machine)

    def test_the_star_of_the_star_is_the_star(self):
        for machine in MACHINES:
            told = starred(machine)
            if len(told[1]) <= 5:
                self.assertEqual(starred(told), told)
                self.assertIs(is_closed(told), True)

    def test_told_machines(self):
        empty_word = (2, ((1, 1), (1, 1)), (0,))
        for machine in ((2, ((0, 0),), ()), empty_word, (2, ((0, 1), (1, 0)), ())):
            self.assertEqual(starred(machine), empty_word)
        self.assertEqual(starred((3, ((1, 1, 1), (1, 1, 1)), (1,))), (3, ((0, 0, 0),), (0,)))
        self.assertEqual(starred(plain.row(4, (2,))), plain.ring(2, (0,)))
        self.assertEqual(starred(plain.row(5, (2, 3))), (1, ((1,), (2,), (2,)), (0, 2)))
        # Standing 0 is led to again by words that are none of the star, though the empty word is one.
        self.assertEqual(starred((2, ((1, 0), (2, 1), (2, 2)), (1,))), (2, ((1, 2), (1, 1), (1, 2)), (0, 1)))
        machine = (2, ((0, 1), (0, 1)), (1,))
        self.assertEqual(starred(machine), (2, ((1, 0), (1, 0)), (0,)))

    def test_great_stars(self):
        # No star of five standings has more than 24, and this one has so many: none can be refused.
        machine = (2, ((1, 0), (2, 1), (3, 2), (4, 3), (0, 0)), (4,))
        most = 0
        rng = random.Random(121)
        for _ in range(400):
            drawn = plain.some_machine(rng, 3, 5)
            most = max(most, len(starred(drawn)[1]))
        self.assertLessEqual(most, 24)
        self.assertGreater(most, 15)
        self.assertEqual(starred(machine), plain_made.starred(machine))


class Closed(unittest.TestCase):
    def test_closed_exactly_if_just_the_star_is_taken(self):
        found = {True: 0, False: 0}
        for machine in MACHINES:
            right = smallest(machine) == STARS[machine]
            found[right] += 1
            self.assertIs(is_closed(machine), right, machine)
        self.assertGreater(min(found.values()), 60)

    def test_held_against_short_words(self):
        for machine in MACHINES:
            if is_closed(machine):
                short = taken(machine, LONGEST[machine[0]] // 2)
                self.assertIn("", short)
                for one in short:
                    for other in short:
                        self.assertTrue(plain.takes(machine, one + other))

    def test_told_machines(self):
        for machine in plain_made.CLOSED:
            self.assertIs(is_closed(machine), True, machine)
            self.assertIsNone(open_pair(machine))
            # Without the empty word there is still no open pair.
            if not any(0 in row for row in machine[1]):
                without = plain.with_other_end(machine, 0)
                self.assertIs(is_closed(without), False)
                self.assertEqual(open_pair(without), ())
        for machine in (plain.row(4, (2,)), plain.row(5, (0, 3)), plain.ring(4, (0, 1)), plain.row(3, (0, 1))):
            self.assertIs(is_closed(machine), False)
            self.assertEqual(len(open_pair(machine)), 2)

    def test_an_end_that_is_never_reached(self):
        for ends, closed in (((0, 2), True), ((2,), False)):
            machine = (1, ((1,), (0,), (1,)), ends)
            self.assertIs(is_closed(machine), closed)
            self.assertEqual(open_pair(machine), None if closed else ())


class OpenPair(unittest.TestCase):
    def test_an_open_pair_or_none(self):
        found = {"pair": 0, "none": 0, "empty": 0}
        for machine in MACHINES:
            told = open_pair(machine)
            if told is None:
                found["none"] += 1
                self.assertEqual(plain_made.least_of(machine), STARS[machine])
                continue
            self.assertIs(type(told), tuple)
            self.assertIs(is_closed(machine), False)
            if told == ():
                found["empty"] += 1
                # All words of the star but the empty one are taken.
                least = plain_made.least_of(machine)
                self.assertEqual(plain.parting_word(least, STARS[machine]), "")
                self.assertEqual(plain_made.both(least, STARS[machine], lambda own, told: own != told),
                                 (machine[0], ((1,) * machine[0],) * 2, (0,)))
                continue
            found["pair"] += 1
            one, other = told
            self.assertEqual([type(one), type(other)], [str, str])
            self.assertTrue(plain.takes(machine, one) and plain.takes(machine, other))
            self.assertFalse(plain.takes(machine, one + other))
        self.assertGreater(min(found.values()), 15)

    def test_none_is_missed_among_short_words(self):
        for machine in MACHINES:
            if open_pair(machine) in (None, ()):
                short = taken(machine, LONGEST[machine[0]] // 2)
                self.assertTrue(all(plain.takes(machine, one + other) for one in short for other in short))

    def test_late_open_pairs(self):
        for machine in ((1, ((1,), (2,), (3,), (4,), (4,)), (3,)), (1, ((1,), (2,), (3,), (4,), (4,)), (0, 3)),
                        (2, ((2, 2), (1, 2), (3, 3), (4, 4), (2, 3)), (1, 4))):
            one, other = open_pair(machine)
            self.assertEqual([len(one), len(other)], [3, 3])
            self.assertTrue(plain.takes(machine, one) and plain.takes(machine, other))
            self.assertFalse(plain.takes(machine, one + other))
            # All shorter words that are taken can be put together.
            short = taken(machine, 2)
            self.assertTrue(all(plain.takes(machine, ahead + word) for ahead in short for word in short))


class Root(unittest.TestCase):
    def closed(self):
        return [machine for machine in MACHINES if plain_made.least_of(machine) == STARS[machine]]

    def check(self, machine):
        told = root_of(machine)
        self.assertTrue(plain.is_machine(told))
        self.assertTrue(plain.is_smallest(told))
        # Roots may have more than five standings, for which the stage's own star is not asked.
        self.assertEqual(plain_made.starred(told), plain_made.least_of(machine), machine)
        longest = LONGEST[machine[0]]
        self.assertEqual(taken(told, longest), plain_root(machine, longest), machine)
        return told

    def test_the_star_of_the_root_takes_just_the_words_again(self):
        many = {}
        for machine in self.closed():
            standings = len(self.check(machine)[1])
            many[standings] = many.get(standings, 0) + 1
        self.assertGreater(min(many.get(standings, 0) for standings in (1, 3, 4, 5, 7)), 5)

    def test_stars_of_few_standings_and_closed_machines_of_five(self):
        rng = random.Random(122)
        found = 0
        for letters in (1, 2, 3):
            for many in (1, 2, 3, 4):
                for _ in range(80):
                    star = plain_made.starred(plain.some_machine(rng, letters, many))
                    if len(star[1]) <= 5:
                        found += len(star[1]) == 5
                        self.check(star)
                    if len(star[1]) < 5:
                        self.check(plain.renumbered(rng, plain.doubled(rng, star)))
                        self.check(plain.with_unreached(rng, star))
        self.assertGreater(found, 5)

    def test_each_other_lot_has_all_root_words(self):
        # A root word is made of no two words, so what makes it must have it: it is lost if it is taken away.
        for machine in self.closed():
            longest = LONGEST[machine[0]]
            told = taken(machine, longest)
            for word in sorted(plain_root(machine, longest))[:6]:
                self.assertNotIn(word, plain_made.short_star(told - {word}, longest))

    def test_told_machines(self):
        self.assertEqual(root_of((2, ((1, 1), (1, 1)), (0,))), (2, ((0, 0),), ()))
        self.assertEqual(root_of((3, ((0, 0, 0),), (0,))), (3, ((1, 1, 1), (2, 2, 2), (2, 2, 2)), (1,)))
        self.assertEqual(root_of((1, ((1,), (2,), (2,)), (0, 2))), plain.row(5, (2, 3)))
        self.assertEqual(root_of(plain.ring(5, (0,))), plain.row(7, (5,)))
        self.assertEqual(root_of((1, ((1,), (2,), (3,), (4,), (4,)), (0, 2, 4))), plain.row(7, (2, 5)))

    def test_not_closed(self):
        for machine in MACHINES:
            if plain_made.least_of(machine) != STARS[machine]:
                with self.assertRaises(NotClosed):
                    root_of(machine)


class Refusals(unittest.TestCase):
    def test_no_machine(self):
        for value in plain.any_values():
            for asked in ASKED:
                with self.assertRaises(NoMachine):
                    asked(value)

    def test_more_than_five_standings(self):
        rng = random.Random(123)
        for letters in (1, 2, 3):
            for many in (6, 7, 31, 32):
                for machine in (plain.ring(many, (0,), letters), plain.ring(many, (1,), letters),
                                plain.row(many, (), letters), plain.some_machine(rng, letters, many)):
                    for asked in ASKED:
                        with self.assertRaises(TooMany) as error:
                            asked(machine)
                        self.assertEqual(error.exception.limit, 5)


if __name__ == "__main__":
    unittest.main()
