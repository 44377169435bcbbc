"""The form of the package: its files, their sizes, and where the interface is defined."""

import ast
import pathlib
import unittest

PACKAGE = pathlib.Path(__file__).resolve().parent.parent / "seamlots"
INTERFACE = {
    "wrongs": ["SeamError", "NoMachine", "NoWord", "NotAlike", "NoCut", "NoChain", "NotClosed", "NoPattern",
               "NoLetters", "NoLengths", "NoWay", "NoRecord", "NoName", "NameTaken", "UnknownName", "NoMark",
               "TooMany"],
    "machines": ["is_machine(value)", "is_word(machine, value)", "standing_of(machine, word)",
                 "takes(machine, word)"],
    "smallest": ["parting_word(one, other)", "smallest(machine)"],
    "cuts": ["is_cut(machine, value)", "first_lot(machine, cut)", "second_lot(machine, cut)",
             "is_idle(machine, cut)", "cuttings(machine, cut, word)", "failing_word(machine, cut)"],
    "products": ["splitting_cuts(machine)", "is_product(machine)", "no_product(machine)",
                 "is_no_product(machine, value)"],
    "widened": ["widened(machine, cut)", "closed_cuts(machine)", "double_word(machine, cut)"],
    "told": ["reached_by(machine, first)", "rest_of(machine, first)", "head_of(machine, second)",
             "lacking_word(machine, first)"],
    "threes": ["middle_lot(machine, cut, later)", "failing_three(machine, cut, later)", "three_cuts(machine)"],
    "stars": ["starred(machine)", "is_closed(machine)", "open_pair(machine)", "root_of(machine)"],
    "patterns": ["is_pattern(letters, value)", "machine_of(letters, pattern)"],
    "lengths": ["is_lengths(value)", "sums(one, other)", "sum_pairs(lengths)"],
    "shelf": ["Shelf"],
    "records": ["judge(record)"],
    "inner": ["inner_places(machine, cut, word)", "failing_inner(machine, cut)", "inner_cuts(machine)",
              "no_inner(machine)", "is_no_inner(machine, value)"],
    "chains": ["way_of(machine, cut, later)", "is_chain(machine, value)", "failing_chain(machine, chain)"],
    "papers": ["split_paper(machine, cut)", "is_split_paper(machine, cut, value)", "idle_paper(machine, cut)",
               "is_idle_paper(machine, cut, value)", "live_words(machine, cut)"],
}
METHODS = ["__init__(self)", "put(self, name, machine)", "join(self, name, way, one, other)",
           "turn(self, name, way, one)", "remove(self, name)", "mark(self)", "back(self, number)", "marks(self)",
           "names(self)", "machine(self, name)", "equal_names(self)", "parting(self, one, other)",
           "split(self, name)", "lacking(self, name, first)"]


class Form(unittest.TestCase):
    def files(self):
        return sorted(path for path in PACKAGE.rglob("*") if "__pycache__" not in path.parts)

    def test_files(self):
        for path in self.files():
            text = path.read_text()
            with self.subTest(path.name):
                self.assertEqual(path.suffix, ".py")
                self.assertLessEqual(len(text.splitlines()), 399)
                self.assertLessEqual(max(map(len, text.splitlines())), 120)
                self.assertEqual([sign for sign in text if sign != "\n" and not " " <= sign <= "~"], [])

    def test_functions_have_at_most_40_lines(self):
        for path in self.files():
            for node in ast.walk(ast.parse(path.read_text())):
                if isinstance(node, ast.FunctionDef):
                    self.assertLessEqual(node.end_lineno - node.lineno + 1, 40, node.name)

    def test_only_modules_of_the_package_are_imported(self):
        for path in self.files():
            for node in ast.walk(ast.parse(path.read_text())):
                self.assertNotIsInstance(node, ast.Import)
                if isinstance(node, ast.ImportFrom):
                    self.assertTrue(node.module.startswith("seamlots."))

    def test_the_interface_is_defined_where_it_is_listed(self):
        for name, listed in INTERFACE.items():
            body = ast.parse((PACKAGE / (name + ".py")).read_text()).body
            defined = [node.name for node in body if isinstance(node, ast.ClassDef)]
            defined += [f"{node.name}({ast.unparse(node.args)})" for node in body if isinstance(node, ast.FunctionDef)]
            self.assertEqual([told for told in listed if told not in defined], [])

    def test_the_methods_of_the_shelf_are_defined_in_its_class(self):
        body = ast.parse((PACKAGE / "shelf.py").read_text()).body
        own = next(node for node in body if isinstance(node, ast.ClassDef) and node.name == "Shelf").body
        defined = [f"{node.name}({ast.unparse(node.args)})" for node in own if isinstance(node, ast.FunctionDef)]
        self.assertEqual([told for told in METHODS if told not in defined], [])

    def test_no_two_files_import_from_each_other(self):
        imports = {}
        for path in self.files():
            nodes = ast.walk(ast.parse(path.read_text()))
            imports[path.stem] = {node.module.split(".")[1] for node in nodes if isinstance(node, ast.ImportFrom)}
        while imports:
            free = [name for name, told in imports.items() if not told & set(imports)]
            self.assertNotEqual(free, [])
            for name in free:
                del imports[name]


if __name__ == "__main__":
    unittest.main()
