"""The rules of the language, as far as a script can see them, held against each file of the package."""

import ast
import unittest

import language
from purity import check_deep_changes, check_purity, run_by_operators

# Changes of items of items: those that L5 Operators lists, and others.
LISTED = ["found = [[] for k in rows]; found[0].append(1)", "found = {}; found[k] = []; found[k].append(1)",
          "found = {}; found.setdefault(k, []).append(1)", "found = {}; found[k] = {}; found[k][s] = True; return found",
          "found = {k: {} for k in rows}; del found[k][s]; found[s] = {k: 1 for k in rows}",
          "found = [[], []]; found[1].append(len(found)); found.append([])", "found = []; found.append([1]); found[0][0] = 2"]
UNLISTED = ["found = {}; found.setdefault(k, {})[s] = True", "found = {}; del found.setdefault(k, {})[s]",
            "found = {}; found[k] = rows; found[k].append(1)", "found = [k for k in rows]; found[0].append(1)",
            "found = {}; found.setdefault(k, rows).append(1)", "found = rows; found[0].append(1)",
            "found = [[] for k in rows]; s = other(found); found[0].append(1)", "rows[0].append(1)",
            "found = [[] for k in rows]; found.extend(rows); found[0][s] = 1", "found = {}; found[k] = {}; found[k][s][0] = 1",
            "found = [[] for k in rows]; kept = found; found[0][0] = 1", "found = list(rows); found[0].append(1)"]


class TestLanguage(unittest.TestCase):
    maxDiff = None

    @classmethod
    def setUpClass(cls):
        cls.files = language.package_files()

    def clean(self, check, *more):
        for file in self.files:
            self.assertEqual(check(file, *more), [])

    def test_the_folder(self):
        self.assertEqual(language.check_folder(), [])
        self.assertLessEqual(len(self.files), 100)

    def test_characters_and_sizes(self):
        self.clean(language.check_characters)

    def test_words(self):
        self.clean(language.check_words)

    def test_imports(self):
        self.clean(language.check_imports)
        self.assertEqual(language.check_cycles(self.files), [])

    def test_module_level(self):
        self.clean(language.check_module_level)

    def test_names(self):
        self.clean(language.check_names)

    def test_functions(self):
        self.clean(language.check_functions)

    def test_classes(self):
        self.clean(language.check_classes)
        classes = {node.name for file in self.files for node in file.nodes(ast.ClassDef)}
        self.clean(language.check_classes_used, classes)

    def test_statements(self):
        self.clean(language.check_statements)

    def test_calls(self):
        own = {node.name for file in self.files for node in file.nodes(ast.FunctionDef)}
        self.clean(language.check_calls, own)

    def test_generators(self):
        generators, found = language.check_generators(self.files)
        self.assertEqual(found, [])
        self.assertEqual(generators, {"rows", "places", "moves", "walk", "stands", "within", "sizes", "all_winning",
                                      "contest", "turns"})
        self.clean(language.check_iterated, generators)
        self.clean(language.check_changed_in_loops)

    def test_names_that_classes_share(self):
        self.assertEqual(language.check_shared_names(self.files), [])

    def test_operators_change_nothing(self):
        self.assertEqual(check_purity(self.files), [])
        run = {function.name for function, _ in run_by_operators(self.files)}
        self.assertLessEqual({"paired", "smallest", "mirrored", "weigh", "check_row", "split_one_by_one"}, run)

    def test_changes_of_items_of_items(self):
        for wrong, texts in ((0, LISTED), (1, UNLISTED)):
            for text in texts:
                tree = language.tree_of(f"def asked(rows, k, s):\n    {text}\n")
                self.assertEqual(len(list(check_deep_changes(tree.body[0]))), wrong, text)
