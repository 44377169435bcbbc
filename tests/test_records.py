"""Point 19: records and their judge."""

import copy
import random
import unittest

from seamlots.cuts import failing_word
from seamlots.products import no_product, splitting_cuts
from seamlots.records import judge
from seamlots.shelf import Shelf
from seamlots.smallest import parting_word, smallest
from seamlots.stars import open_pair
from seamlots.told import head_of, lacking_word, rest_of
from seamlots.widened import double_word
from seamlots.wrongs import NoRecord
from tests import plain, plain_papers

MACHINES = plain.lot_machines()
CONDITIONS = {"same": 2, "parts": 3, "splits": 3, "fails": 4, "twice": 4, "none": 2, "factor": 3, "open": 4}
MACHINE = (2, ((0, 1), (1, 1)), (1,))


def right_records(rng):
    """Right records of every form, made of what the functions tell."""
    found = []
    for machine in MACHINES:
        same = [smallest(machine), plain.renumbered(rng, machine), plain.with_unreached(rng, machine)]
        found += [("same", machine, other) for other in same]
        cuts = plain.cuts(machine)
        for other in rng.sample([other for other in MACHINES if other[0] == machine[0]], 6):
            word = parting_word(machine, other)
            if word is not None:
                found.append(("parts", machine, other, word))
            if plain_papers.takes_some(other):
                for first in (other, head_of(machine, rest_of(machine, other))):
                    if lacking_word(machine, first) is None and plain_papers.takes_some(first):
                        found.append(("factor", machine, first))
        found += [("splits", machine, cut) for cut in splitting_cuts(machine)[:3]]
        for cut in rng.sample(cuts, min(len(cuts), 4)):
            for form, word in (("fails", failing_word(machine, cut)), ("twice", double_word(machine, cut))):
                if word is not None:
                    found.append((form, machine, cut, word))
        if no_product(machine) is not None:
            found.append(("none", machine, no_product(machine)))
        if open_pair(machine):
            found.append(("open", machine) + open_pair(machine))
    return found


RECORDS = right_records(random.Random(161))


class Judge(unittest.TestCase):
    def setUp(self):
        self.found = {}

    def check(self, record, copied=True):
        try:
            right = plain_papers.judge(record)
        except plain.TooGreat:
            return None
        # The greatest values take long to copy.
        before = copy.deepcopy(record) if copied else record
        if right is None:
            with self.assertRaises(NoRecord):
                judge(record)
        else:
            told = judge(record)
            self.assertEqual(told, right, record)
            self.assertEqual([type(part) for part in told], [type(part) for part in right])
            self.found[(record[0],) + told] = self.found.get((record[0],) + told, 0) + 1
        self.assertEqual(record, before)
        return right

    def test_right_records(self):
        for record in RECORDS:
            self.assertEqual(judge(record), ("right",), record)
            self.assertIn(self.check(record), (("right",), None))
        for form in CONDITIONS:
            self.assertGreater(self.found[form, "right"], 40)

    def test_records_with_one_or_two_things_changed(self):
        rng = random.Random(162)
        for record in RECORDS:
            for value in self.changed(rng, record):
                self.check(value)
        for form, conditions in CONDITIONS.items():
            for number in range(conditions):
                self.assertGreater(self.found.get((form, "wrong", number), 0), 30, (form, number))

    def changed(self, rng, record):
        """The record with one or two things changed, and with entries of other records."""
        other = rng.choice(RECORDS)
        at = rng.randrange(1, len(record))
        found = [plain.put(record, (at,), part) for part in plain.near(rng, record[at])[:4] + [other[-1], other[1]]]
        inner = plain.changed(rng, record)
        found += [inner, plain.changed(rng, inner) if isinstance(inner, tuple) else inner]
        machine = record[1]
        found.append(record[:1] + (plain.with_other_end(machine, rng.randrange(len(machine[1]))),) + record[2:])
        if record[0] in ("parts", "fails", "twice", "open"):
            words = plain.short_words(machine)
            found += [record[:-1] + (rng.choice(words),), record[:-1] + (record[-1] + "a",), record[:-1] + ("",)]
        if record[0] in ("fails", "twice", "splits"):
            cuts = plain.cuts(machine)
            found += [record[:2] + (rng.choice(cuts),) + record[3:] for _ in range(2)]
        if record[0] in ("same", "factor"):
            found.append(record[:2] + (plain.some_machine(rng, machine[0], rng.randrange(1, 4)),))
        if record[0] == "open":
            found.append(record[:2] + (rng.choice(plain.short_words(machine)), record[3]))
            found.append(record[:2] + ("", record[3]))
        if record[0] == "none":
            rows = record[2]
            found += [record[:2] + (rows[::-1],), record[:2] + (rows[1:],), record[:2] + (tuple(rows),)]
        return found

    def test_other_forms(self):
        rng = random.Random(163)
        forms = list(CONDITIONS)
        for record in RECORDS[::3]:
            self.check((rng.choice(forms),) + record[1:])
            for value in (record[1:], record[:-1], record + ("",), list(record), (list(record[0]),) + record[1:],
                          (record,), (record[0].upper(),) + record[1:], (record[0] + "s",) + record[1:], record[0]):
                self.assertIsNone(self.check(value))

    def test_values_of_other_kinds_at_every_entry(self):
        records = {record[0]: record for record in RECORDS if record[1][0] == 2 and len(record[1][1]) > 1}
        self.assertEqual(sorted(records), sorted(CONDITIONS))
        for record in records.values():
            for at in range(len(record)):
                for value in plain.any_values():
                    self.check(plain.put(record, (at,), value), False)
                    self.check(plain.put(plain.put(record, (at,), value), (len(record) - 1,), value), False)

    def test_no_records(self):
        for value in plain.any_values() + ["same", ("same",), ("same", MACHINE), ("same", MACHINE, MACHINE, MACHINE),
                                           ["same", MACHINE, MACHINE], ("Same", MACHINE, MACHINE), (None,) * 3, ((),),
                                           (["same"], MACHINE, MACHINE), (("same",), MACHINE, MACHINE), ("", 1, 2),
                                           ("open", MACHINE, ""), ("fails", MACHINE, (0,)), ("none", MACHINE),
                                           ("parts", MACHINE, MACHINE), ("factor", MACHINE, MACHINE, MACHINE),
                                           (0, MACHINE, MACHINE), (True, MACHINE, MACHINE), ("right",), ("wrong", 3)]:
            with self.assertRaises(NoRecord):
                judge(value)

    def test_entries_may_be_any_values(self):
        for form, length in plain_papers.FORMS.items():
            for value in plain.any_values() + [Shelf()]:
                self.assertEqual(judge((form,) + (value,) * (length - 1)), ("wrong", 0))
        self.assertEqual(judge(("same", MACHINE, None)), ("wrong", 0))

    def test_told_records(self):
        six = plain.row(6, (4,), 2)
        for record, right in (
                (("splits", MACHINE, (0,)), ("right",)), (("fails", MACHINE, (0,), "b"), ("wrong", 3)),
                (("twice", MACHINE, (0,), "ab"), ("right",)), (("twice", MACHINE, (0,), "b"), ("wrong", 3)),
                (("splits", six, None), ("wrong", 0)), (("splits", MACHINE, (2,)), ("wrong", 1)),
                (("splits", MACHINE, (False,)), ("wrong", 1)),
                # An idle cut is none of the kind, though it splits.
                (("splits", (1, ((1,), (2,), (2,)), (1,)), (0,)), ("wrong", 1)),
                (("splits", plain.row(4, (1, 2)), (2,)), ("wrong", 1)), (("none", six, []), ("wrong", 0)),
                (("splits", (2, ((1, 2), (4, 3), (3, 4), (4, 4), (4, 4)), (3,)), (1,)), ("wrong", 2)),
                (("none", MACHINE, []), ("wrong", 1)), (("none", (1, ((1,), (2,), (2,)), (1,)), []), ("right",)),
                # Machines of other forms may have thirty-two standings.
                (("open", plain.row(32, (20,)), "a" * 20, "a" * 20), ("right",)),
                (("open", plain.row(32, (20,)), "a" * 20, "a" * 19), ("wrong", 2)),
                (("open", plain.row(32, (20,)), "a" * 19, None), ("wrong", 1)),
                (("open", plain.ring(32, (0,)), "", "a" * 32), ("wrong", 3)),
                (("same", plain.ring(32, (0,)), plain.ring(32, (0,))), ("right",)),
                (("same", plain.ring(32, (0,)), plain.ring(16, (0,))), ("wrong", 1)),
                (("parts", plain.ring(32, (0,)), plain.ring(16, (0,)), "a" * 16), ("right",)),
                (("parts", plain.ring(32, (0,)), plain.ring(16, (0,)), "a" * 32), ("wrong", 2)),
                (("parts", MACHINE, plain.ring(16, (0,)), "a"), ("wrong", 0)),
                (("parts", plain.ring(2, (0,)), plain.ring(3, (0,)), "b"), ("wrong", 1)),
                (("factor", plain.ring(4, (0,)), plain.ring(32, (0,))), ("right",)),
                (("factor", plain.ring(4, (0,)), plain.ring(32, ())), ("wrong", 1)),
                (("factor", plain.ring(4, (0,)), plain.ring(32, (1,))), ("wrong", 2)),
                (("factor", plain.ring(6, (0,)), plain.ring(1, (0,))), ("wrong", 0)),
                (("factor", plain.ring(4, (0,)), plain.ring(4, (0,), 2)), ("wrong", 0)),
                (("factor", plain.ring(4, ()), plain.ring(4, ())), ("wrong", 1))):
            self.assertEqual(judge(record), right, record)
            self.assertEqual(plain_papers.judge(record), right, record)

    def test_long_words(self):
        word = "a" * 150000
        for record, right in ((("open", MACHINE, word + "b", word + "b"), ("wrong", 3)),
                              (("open", MACHINE, word, word), ("wrong", 1)),
                              (("fails", MACHINE, (0,), word + "b"), ("wrong", 3)),
                              (("twice", MACHINE, (0,), word + "b"), ("right",)),
                              (("parts", MACHINE, (2, ((0, 0),), ()), word + "b"), ("right",))):
            self.assertEqual(judge(record), right)


if __name__ == "__main__":
    unittest.main()
