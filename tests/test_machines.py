"""Point 4: machines, their words, and where these lead."""

import random
import unittest

from seamlots.machines import is_machine, is_word, standing_of, takes
from seamlots.wrongs import NoMachine, NoWord
from tests import plain

TWO = (2, ((1, 2), (2, 0), (2, 2)), (0,))


def cycle(many, ends):
    return 1, tuple(((at + 1) % many,) for at in range(many)), ends


class IsMachine(unittest.TestCase):
    def test_machines_of_one_to_nine_standings(self):
        rng = random.Random(1)
        for letters in (1, 2, 3):
            for many in range(1, 10):
                for _ in range(10):
                    self.assertIs(is_machine(plain.some_machine(rng, letters, many)), True)

    def test_one_or_two_things_changed(self):
        rng = random.Random(2)
        told = {True: 0, False: 0}
        for _ in range(20000):
            machine = plain.some_machine(rng, rng.randrange(1, 4), rng.randrange(1, 10))
            near = plain.changed(rng, machine)
            if rng.randrange(2):
                near = plain.changed(rng, near)
            told[plain.is_machine(near)] += 1
            self.assertIs(is_machine(near), plain.is_machine(near), near)
        self.assertGreater(min(told.values()), 1000)

    def test_each_integer_changed(self):
        for machine in (TWO, (3, ((0, 0, 1), (1, 0, 1)), (0, 1)), (1, ((0,),), (0,))):
            for place in plain.places(machine):
                part = plain.part_at(machine, place)
                for other in (True, False, None, "0", "1", (0,), [0], (), -1, 0, 1, 2, 3, 4, 31, 32, 33, 10 ** 5000):
                    near = plain.put(machine, place, other)
                    self.assertIs(is_machine(near), plain.is_machine(near), near)
                if isinstance(part, tuple):
                    self.assertIs(is_machine(plain.put(machine, place, list(part))), False)

    def test_32_and_33_standings(self):
        for many in (31, 32):
            self.assertIs(is_machine(cycle(many, (many - 1,))), True)
            self.assertIs(is_machine(cycle(many, tuple(range(many)))), True)
            self.assertIs(is_machine(cycle(many, (many,))), False)
            self.assertIs(is_machine(cycle(many, tuple(range(many + 1)))), False)
        for many in (33, 34, 100, 100000):
            self.assertIs(is_machine(cycle(many, ())), False)
            self.assertIs(is_machine((1, ((0,),) * many, (0,))), False)

    def test_numbers_of_letters(self):
        for letters in (1, 2, 3):
            self.assertIs(is_machine((letters, ((0,) * letters,), ())), True)
            self.assertIs(is_machine((letters, ((0,) * letters, (1,) * letters), (0, 1))), True)
            for other in {0, 1, 2, 3, 4} - {letters}:
                self.assertIs(is_machine((letters, ((0,) * other,), ())), False)
                self.assertIs(is_machine((letters, ((0,) * letters, (0,) * other), ())), False)
        for letters in (0, 4, 5, -1):
            self.assertIs(is_machine((letters, ((0,) * max(0, letters),), ())), False)
        self.assertIs(is_machine((True, ((0,),), ())), False)

    def test_standings_are_below_the_number_of_rows(self):
        for to in (-1, 2, 3, 32, False, True):
            self.assertIs(is_machine((1, ((to,), (0,)), ())), False)
            self.assertIs(is_machine((2, ((0, 0), (0, to)), ())), False)
            self.assertIs(is_machine((1, ((0,), (0,)), (to,))), False)

    def test_no_standing_at_all(self):
        for letters in (1, 2, 3):
            self.assertIs(is_machine((letters, (), ())), False)

    def test_ends_ascend(self):
        for ends in ((), (0,), (1,), (2,), (0, 1), (0, 2), (1, 2), (0, 1, 2)):
            self.assertIs(is_machine(TWO[:2] + (ends,)), True)
        for ends in ((0, 0), (1, 0), (2, 1), (0, 2, 1), (1, 1), (0, 1, 1), (0, 1, 2, 2), (0, 1, 2, 3), (3,), (-1, 0),
                     [], [0], "", "0", None, 0, False, True, (False,), (False, True), (0, True), (None,), ((),),
                     ((0,),)):
            self.assertIs(is_machine(TWO[:2] + (ends,)), False, ends)

    def test_other_values(self):
        for value in plain.any_values():
            self.assertIs(is_machine(value), False)
            for at in range(3):
                self.assertIs(is_machine(plain.put(TWO, (at,), value)), plain.is_machine(plain.put(TWO, (at,), value)))
            near = (TWO[0], (value, value), ())
            self.assertIs(is_machine(near), plain.is_machine(near))
        self.assertIs(is_machine(TWO + ((),)), False)
        self.assertIs(is_machine(TWO[:2]), False)
        self.assertIs(is_machine((TWO,)), False)


class Words(unittest.TestCase):
    def machines(self):
        rng = random.Random(3)
        return [plain.some_machine(rng, letters, many) for letters in (1, 2, 3) for many in range(1, 13)
                for _ in range(3)] + [plain.some_machine(rng, letters, 32) for letters in (1, 2, 3)]

    def test_all_short_words(self):
        for machine in self.machines():
            for word in plain.words(machine[0], {1: 30, 2: 6, 3: 4}[machine[0]]):
                self.assertIs(is_word(machine, word), True)
                self.assertEqual(standing_of(machine, word), plain.led(machine, 0, word))
                self.assertIs(takes(machine, word), plain.takes(machine, word))

    def test_long_words(self):
        rng = random.Random(4)
        for machine in self.machines():
            for many in (100, 1001):
                word = "".join(rng.choice("abc"[:machine[0]]) for _ in range(many))
                self.assertIs(is_word(machine, word), True)
                self.assertEqual(standing_of(machine, word), plain.led(machine, 0, word))
                self.assertIs(takes(machine, word), plain.takes(machine, word))
        self.assertEqual(standing_of(cycle(32, (5,)), "a" * 300000), 300000 % 32)
        self.assertIs(takes(cycle(32, (300000 % 32,)), "a" * 300000), True)
        self.assertIs(takes(cycle(32, (5,)), "a" * 300000), False)

    def test_the_empty_word(self):
        for machine in self.machines():
            self.assertIs(is_word(machine, ""), True)
            self.assertEqual(standing_of(machine, ""), 0)
            self.assertIs(takes(machine, ""), 0 in machine[2])

    def test_letters_that_the_machine_does_not_have(self):
        for machine in self.machines():
            for letter in "abcdABC aZ0\u00e4\n":
                for word in (letter, "a" + letter, letter + "a", "aa" + letter + "aa", "a" * 1000 + letter):
                    right = letter in "abc"[:machine[0]]
                    self.assertIs(is_word(machine, word), right)
                    for asked in (standing_of, takes):
                        if right:
                            asked(machine, word)
                        else:
                            with self.assertRaises(NoWord):
                                asked(machine, word)

    def test_other_values(self):
        for value in plain.any_values() + [b"a", {"a": 1}, ("a", "b"), ["a"]]:
            self.assertIs(is_word(TWO, value), False)
            for asked in (standing_of, takes):
                with self.assertRaises(NoWord):
                    asked(TWO, value)

    def test_no_machine(self):
        for value in plain.any_values():
            for asked in (is_word, standing_of, takes):
                for word in ("", "a", None, value):
                    with self.assertRaises(NoMachine):
                        asked(value, word)


if __name__ == "__main__":
    unittest.main()
