"""The examples of the document's interface, as written, and those of README.md."""

import doctest
import pathlib
import unittest

STAGES = {
    "machines": """
>>> from seamlots.machines import is_machine, is_word, standing_of, takes
>>> machine = (2, ((1, 2), (2, 0), (2, 2)), (0,))
>>> [is_machine(machine), is_machine((2, ((1,), (0,)), ())), is_word(machine, 'abc')]
[True, False, False]
>>> [standing_of(machine, 'aba'), takes(machine, 'abab'), takes(machine, 'aab'), takes(machine, '')]
[1, True, False, True]
""",
    "smallest": """
>>> from seamlots.smallest import parting_word, smallest
>>> one = (1, ((1,), (2,), (3,), (0,)), (1, 3))
>>> [smallest(one), parting_word(one, (1, ((1,), (0,)), (1,))), parting_word(one, (1, ((1,), (1,)), (1,)))]
[(1, ((1,), (0,)), (1,)), None, 'aa']
""",
    "cuts": """
>>> from seamlots.cuts import cuttings, failing_word, first_lot, is_idle, second_lot
>>> machine = (2, ((0, 1), (1, 1)), (1,))
>>> [first_lot(machine, (0,)), second_lot(machine, (0, 1)), is_idle(machine, (0,))]
[(2, ((0, 1), (1, 1)), (0,)), (2, ((0, 1), (1, 1)), (1,)), False]
>>> [cuttings(machine, (0,), 'aba'), failing_word(machine, (0,)), failing_word((1, ((1,), (2,), (2,)), (1,)), (0,))]
[[0, 1], None, None]
>>> [cuttings(machine, (1,), 'aba'), failing_word(machine, (1,)), failing_word(machine, (0, 1))]
[[2, 3], None, None]
""",
    "products": """
>>> from seamlots.products import is_no_product, is_product, no_product, splitting_cuts
>>> machine = (1, ((1,), (2,), (3,), (3,)), (1, 2))
>>> [splitting_cuts(machine), is_product(machine), no_product(machine)]
[[(0, 1), (1,)], True, None]
>>> machine = (1, ((1,), (2,), (2,)), (1,))
>>> [splitting_cuts(machine), no_product(machine), is_no_product(machine, [])]
[[], [], True]
""",
    "widened": """
>>> from seamlots.widened import closed_cuts, double_word, widened
>>> machine = (2, ((0, 1), (1, 1)), (1,))
>>> [widened(machine, (0,)), widened(machine, (1,)), closed_cuts(machine), double_word(machine, (0,))]
[(0, 1), (1,), [(0, 1), (1,)], 'ab']
""",
    "told": """
>>> from seamlots.told import head_of, lacking_word, reached_by, rest_of
>>> machine = (1, ((1,), (2,), (3,), (3,)), (1, 2))
>>> first = (1, ((1,), (2,), (2,)), (1,))
>>> [reached_by(machine, first), rest_of(machine, first), lacking_word(machine, first)]
[(1,), (1, ((1,), (2,), (2,)), (0, 1)), None]
>>> [head_of(machine, first), lacking_word(machine, machine)]
[(1, ((1,), (2,), (2,)), (0, 1)), None]
""",
    "threes": """
>>> from seamlots.threes import failing_three, middle_lot, three_cuts
>>> machine = (1, ((1,), (2,), (3,), (3,)), (2,))
>>> [middle_lot(machine, (0,), (1,)), failing_three(machine, (0,), (1,)), three_cuts(machine)]
[(1, ((1,), (2,), (2,)), (1,)), None, []]
""",
    "stars": """
>>> from seamlots.stars import is_closed, open_pair, root_of, starred
>>> machine = (1, ((1,), (2,), (3,), (3,)), (2,))
>>> [starred(machine), is_closed(machine), open_pair(machine), root_of((1, ((1,), (0,)), (0,)))]
[(1, ((1,), (0,)), (0,)), False, ('aa', 'aa'), (1, ((1,), (2,), (3,), (3,)), (2,))]
""",
    "patterns": """
>>> from seamlots.patterns import is_pattern, machine_of
>>> pattern = ('then', ('many', ('word', 'a')), ('word', 'b'))
>>> [is_pattern(2, pattern), is_pattern(1, pattern), machine_of(2, pattern)]
[True, False, (2, ((0, 1), (2, 2), (2, 2)), (1,))]
""",
    "lengths": """
>>> from seamlots.lengths import is_lengths, sum_pairs, sums
>>> [is_lengths((0, 2, 3)), sums((0, 1), (0, 2)), sum_pairs((0, 1, 2, 3)), sum_pairs((0, 1, 3))]
[True, (0, 1, 2, 3), [((0, 1), (0, 1, 2)), ((0, 1, 2), (0, 1))], []]
""",
    "shelf": """
>>> from seamlots.shelf import Shelf
>>> shelf = Shelf()
>>> shelf.put('one', (1, ((1,), (2,), (2,)), (1,)))
>>> [shelf.join('two', 'then', 'one', 'one'), shelf.turn('all', 'many', 'one'), shelf.mark(), shelf.names()]
[None, None, 0, ['all', 'one', 'two']]
>>> [shelf.machine('all'), shelf.split('two'), shelf.split('one'), shelf.lacking('two', 'one'), shelf.parting('one', 'two')]
[(1, ((0,),), (0,)), (1,), None, None, 'a']
""",
    "records": """
>>> from seamlots.records import judge
>>> machine = (2, ((0, 1), (1, 1)), (1,))
>>> [judge(('splits', machine, (0,))), judge(('fails', machine, (0,), 'b')), judge(('twice', machine, (0,), 'ab'))]
[('right',), ('wrong', 3), ('right',)]
""",
    "inner": """
>>> from seamlots.inner import failing_inner, inner_cuts, inner_places, no_inner
>>> machine = (1, ((1,), (2,), (2,)), (2,))
>>> [inner_places(machine, (1, 2), 'aaa'), failing_inner(machine, (1,)), failing_inner(machine, (2,)), inner_cuts(machine)]
[[1, 2], None, 'aa', [(1,), (1, 2)]]
>>> [no_inner((1, ((1,), (1,)), (0,))), no_inner((1, ((0,),), ()))]
[[((0,), ''), ((0, 1), ''), ((1,), '')], []]
""",
    "chains": """
>>> from seamlots.chains import failing_chain, way_of
>>> machine = (1, ((1,), (2,), (2,)), (2,))
>>> [way_of(machine, (0,), (1,)), failing_chain(machine, ((1,), (2,))), failing_chain(machine, ((1,), (1,)))]
[(1, ((1,), (2,), (2,)), (1,)), None, None]
""",
    "papers": """
>>> from seamlots.papers import idle_paper, is_idle_paper, is_split_paper, live_words, split_paper
>>> machine = (1, ((1,), (2,), (2,)), (1,))
>>> [split_paper(machine, (0,)), split_paper(machine, (2,)), live_words(machine, (0,))]
[[(0, ((0,),)), (1, ((1,),)), (2, ((2,),))], None, None]
>>> [idle_paper(machine, (0,)), idle_paper(machine, (1,)), is_idle_paper(machine, (1,), ('second', ((2,),)))]
[('first', (1, 2)), ('second', ((2,),)), True]
>>> [live_words((2, ((0, 1), (1, 1)), (1,)), (0,)), is_split_paper(machine, (0,), [])]
[('a', 'b'), False]
""",
}


class Examples(unittest.TestCase):
    def check(self, text, name):
        printed = []
        test = doctest.DocTestParser().get_doctest(text, {}, name, None, 0)
        told = doctest.DocTestRunner(verbose=False).run(test, out=printed.append)
        self.assertEqual(told.failed, 0, "".join(printed))
        self.assertGreater(told.attempted, 1)

    def test_stages(self):
        for name, text in STAGES.items():
            with self.subTest(name):
                self.check(text, name)

    def test_readme(self):
        readme = pathlib.Path(__file__).resolve().parent.parent / "README.md"
        # A fence ends an example, which doctest does not know.
        self.check(readme.read_text().replace("```", ""), "README.md")


if __name__ == "__main__":
    unittest.main()
