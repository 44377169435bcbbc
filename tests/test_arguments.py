"""Points 2 and 3: for every function of all stages any values, such as calls returned and bent ones among them."""

import random
import unittest

from seamlots import chains, cuts, inner, machines, papers, patterns, products, records, stars, widened, wrongs
from seamlots.shelf import Shelf
from tests import plain, plain_made, plain_papers
from tests.test_refusals import ASKED

MACHINES = plain.lot_machines()


def returned(rng):
    """What calls return: words, cuts, machines, papers, pairs, lists of these, and a shelf."""
    shelf = Shelf()
    shelf.put("one", plain.row(4, (2,)))
    shelf.mark()
    found = [shelf, shelf.names(), shelf.marks(), shelf.equal_names(), shelf.machine("one"), shelf.split("one"), None,
             True, False]
    for machine in rng.sample(MACHINES, 40):
        found += [machine, stars.starred(machine), stars.open_pair(machine), products.splitting_cuts(machine),
                  products.no_product(machine), inner.inner_cuts(machine), inner.no_inner(machine),
                  widened.closed_cuts(machine), machines.standing_of(machine, "a")]
        for cut in rng.sample(plain.cuts(machine), min(3, 2 ** len(machine[1]) - 1)):
            found += [cut, cuts.first_lot(machine, cut), cuts.second_lot(machine, cut), cuts.failing_word(machine, cut),
                      cuts.cuttings(machine, cut, "aaa"), papers.split_paper(machine, cut),
                      papers.idle_paper(machine, cut), papers.live_words(machine, cut),
                      chains.way_of(machine, cut, (0,)), (cut, (0,)), (cut,),
                      records.judge(("splits", machine, cut)), ("splits", machine, cut)]
    for letters in (1, 2, 3):
        for _ in range(20):
            pattern = plain_made.some_pattern(rng, letters, rng.randrange(1, 5), 2)
            found.append(pattern)
            try:
                found.append(patterns.machine_of(letters, pattern))
            except wrongs.TooMany as error:
                found.append(error.limit)
    return found + [(0,), (0, 1, 2, 3), (0, 2, 40), [((0, 1), (0, 1, 2))], ("same", (0,), None), 1, 2, 3]


def bent(rng, value):
    """The value, or that with some parts exchanged, left out, turned round, put in or made greater or less."""
    if isinstance(value, Shelf):
        return rng.choice([value, [value], (value,), ("word", value)])
    for _ in range(rng.randrange(3)):
        value = plain.changed(rng, value)
    return value


def copied(value):
    """A copy, of lists and tuples all the way down; a shelf stays itself."""
    return type(value)([copied(part) for part in value]) if isinstance(value, (list, tuple)) else value


def due(names, most, arguments):
    """The error that is due by its name, or None."""
    machine = arguments[0]
    found = {"machine": (plain.is_machine, "NoMachine"), "other": (plain.is_machine, "NoMachine"),
             "closed": (plain.is_machine, "NoMachine"), "value": (lambda value: True, None),
             "cut": (lambda value: plain.is_cut(machine, value), "NoCut"),
             "word": (lambda value: plain.is_word(machine, value), "NoWord"),
             "chain": (lambda value: plain_papers.is_chain(machine, value), "NoChain"),
             "letters": (lambda value: type(value) is int and value in (1, 2, 3), "NoLetters"),
             "pattern": (lambda value: plain_made.is_pattern(machine, value), "NoPattern"),
             "lengths": (plain_made.is_lengths, "NoLengths")}
    for name, value in zip(names, arguments):
        holds, error = found[name]
        if not holds(value):
            return error
    if "other" in names and machine[0] != arguments[1][0]:
        return "NotAlike"
    if most is not None and len(machine[1]) > most:
        return "TooMany"
    if names == ("closed",) and not plain_made.is_closed(machine):
        return "NotClosed"
    return None


class AnyValues(unittest.TestCase):
    def pools(self, rng):
        """For each kind of argument, values that fit it more often than others do."""
        values = returned(rng)
        some_machines = [value for value in values if plain.is_machine(value)]
        return values, {
            "machine": some_machines, "other": some_machines,
            "closed": some_machines,
            "cut": [(0,), (0, 1), (1,), (2,), (0, 2)], "word": ["", "a", "aa", "ab", "ba", "abc", "c"],
            "chain": [((0,),), ((0,), (0, 1)), ((1,),) * 4, ((0,),) * 5], "letters": [1, 2, 3],
            "pattern": [value for value in values if plain_made.is_pattern(3, value)],
            "lengths": [(0,), (0, 1), (0, 1, 2, 3), (0, 40)], "value": values}

    def test_the_error_that_is_due_or_an_answer(self):
        rng = random.Random(211)
        values, pools = self.pools(rng)
        counted = {}
        for asked, names, most in ASKED:
            for _ in range(260):
                arguments = [bent(rng, rng.choice(pools[name] if rng.randrange(4) else values)) if rng.randrange(3) else
                             rng.choice(pools[name]) for name in names]
                before = copied(arguments)
                right = due(names, most, arguments)
                try:
                    answer = asked(*arguments)
                    told = None
                    if not any(name == "value" for name in names):
                        self.assertEqual(asked(*arguments), answer)
                except wrongs.SeamError as error:
                    told = type(error).__name__
                # Patterns may be refused for their size behind all that is looked at here.
                if right is None and names == ("letters", "pattern") and told == "TooMany":
                    told = None
                self.assertEqual(told, right, (asked.__name__, arguments))
                self.assertEqual(arguments, before)
                self.assertEqual(repr(arguments), repr(before))
                counted[told] = counted.get(told, 0) + 1
        self.assertGreater(min(counted.values()), 15)
        self.assertEqual(sorted(counted, key=str), sorted([
            None, "NoMachine", "NoWord", "NotAlike", "NoCut", "NoChain", "NotClosed", "NoPattern", "NoLetters",
            "NoLengths", "TooMany"], key=str))

    def test_asked_of_a_value_tells_true_or_false(self):
        rng = random.Random(212)
        values, pools = self.pools(rng)
        plainly = {
            "is_machine": plain.is_machine, "is_word": plain.is_word, "is_cut": plain.is_cut,
            "is_no_product": plain.is_no_product, "is_pattern": plain_made.is_pattern,
            "is_lengths": plain_made.is_lengths, "is_no_inner": plain_papers.is_no_inner,
            "is_chain": plain_papers.is_chain,
            "is_split_paper": plain_papers.is_split_paper, "is_idle_paper": plain_papers.is_idle_paper}
        asked_of = [row for row in ASKED if row[1][-1] == "value"] + [(machines.is_machine, ("value",), None)]
        self.assertEqual(sorted(row[0].__name__ for row in asked_of), sorted(plainly))
        for asked, names, most in asked_of:
            for value in values + plain.any_values():
                for told in (value, bent(rng, value)) if value in values else (value,):
                    arguments = [rng.choice([machine for machine in pools["machine"] if len(machine[1]) <= 5])
                                 if name == "machine" else rng.choice(pools[name]) for name in names[:-1]] + [told]
                    if due(names, most, arguments) is None:
                        right = plainly[asked.__name__](*arguments)
                        self.assertIs(asked(*arguments), right, (asked.__name__, arguments))

    def test_the_judge(self):
        rng = random.Random(213)
        values = returned(rng)
        told = {True: 0, False: 0}
        for _ in range(3000):
            form = rng.choice(list(plain_papers.FORMS))
            entries = [bent(rng, rng.choice(values)) for _ in range(plain_papers.FORMS[form] - 1)]
            if rng.randrange(2):
                entries[0] = rng.choice(MACHINES)
            record = bent(rng, (form,) + tuple(entries)) if rng.randrange(2) else (form,) + tuple(entries)
            try:
                right = plain_papers.judge(record)
            except plain.TooGreat:
                continue
            told[right is None] += 1
            if right is None:
                with self.assertRaises(wrongs.NoRecord):
                    records.judge(record)
            else:
                self.assertEqual(records.judge(record), right, record)
        self.assertGreater(min(told.values()), 100)


class TwoShelves(unittest.TestCase):
    def test_any_values_for_the_shelf(self):
        rng = random.Random(214)
        values = returned(rng)
        calls = {"put": 2, "join": 4, "turn": 3, "remove": 1, "mark": 0, "back": 1, "machine": 1, "parting": 2,
                 "split": 1, "lacking": 2}
        fitting = ["one", "two", "a", "or", "and", "then", "not", "many", 0, 1, 2]
        for _ in range(25):
            shelf, account = Shelf(), plain_made.Account()
            for _ in range(60):
                method = rng.choice(list(calls))
                arguments = [rng.choice(fitting + MACHINES[:5]) if rng.randrange(3) else bent(rng, rng.choice(values))
                             for _ in range(calls[method])]
                told = []
                for asked in (getattr(shelf, method), getattr(account, method)):
                    try:
                        told.append(("told", asked(*arguments)))
                    except plain_made.Refused as refused:
                        told.append(refused.told)
                    except wrongs.SeamError as error:
                        kept = list(vars(error).values())
                        told.append((type(error).__name__, kept[0] if kept else None))
                self.assertEqual(told[0], told[1], (method, arguments))
                self.assertEqual([shelf.names(), shelf.marks()], [account.names(), account.marks()])


if __name__ == "__main__":
    unittest.main()
