"""The names, arguments and files of the interface, and the plain sides of the form that the package keeps."""

import ast
import inspect
import os
import unittest

from leanrow.rows import Row
from leanrow.webs import Web

ROOT = os.path.dirname(os.path.dirname(os.path.abspath(__file__)))
PACKAGE = os.path.join(ROOT, "leanrow")

METHODS = {
    Web: {"put": ["name"], "take": ["name"], "lean": ["name", "other"], "loosen": ["name", "other"], "things": [],
          "leanings": [], "leans": ["name", "other"], "chain": ["name", "other"]},
    Row: {"put": ["name"], "take": ["name"], "lean": ["name", "other"], "loosen": ["name", "other"], "names": [],
          "place": ["name"], "leanings": []},
}


class Interface(unittest.TestCase):
    def test_each_class_is_defined_in_its_file(self):
        self.assertEqual(Web.__module__, "leanrow.webs")
        self.assertEqual(Row.__module__, "leanrow.rows")

    def test_each_class_is_made_of_nothing_and_without_things(self):
        self.assertEqual((Web().things(), Web().leanings()), ([], []))
        self.assertEqual((Row().names(), Row().leanings()), ([], []))
        for made in (Web, Row):
            self.assertEqual(list(inspect.signature(made).parameters), [])

    def test_each_method_stands_in_the_class_itself_with_its_arguments(self):
        for made, methods in METHODS.items():
            for name, arguments in methods.items():
                with self.subTest(made=made.__name__, method=name):
                    self.assertIn(name, vars(made))
                    self.assertEqual(list(inspect.signature(getattr(made(), name)).parameters), arguments)

    def test_arguments_go_by_their_names(self):
        for made in (Web, Row):
            target = made()
            self.assertIsNone(target.put(name="a"))
            self.assertIsNone(target.put(name="b"))
            target.lean(name="a", other="b")
            self.assertEqual(target.leanings(), [("a", "b")])
            self.assertIsNone(target.loosen(other="b", name="a"))
            self.assertIsNone(target.take(name="b"))
        web = Web()
        web.put(name="a")
        self.assertIs(web.leans(name="a", other="a"), False)
        self.assertEqual(web.chain(name="a", other="a"), ["a"])
        row = Row()
        row.put(name="a")
        self.assertEqual(row.place(name="a"), 0)

    def test_kinds_of_what_is_told(self):
        web = Web()
        self.assertIsNone(web.put("a"))
        self.assertIsNone(web.put("b"))
        self.assertIsNone(web.lean("a", "b"))
        self.assertIs(type(web.things()), list)
        self.assertIs(type(web.leanings()), list)
        self.assertIs(type(web.leanings()[0]), tuple)
        self.assertIs(web.leans("a", "b"), True)
        self.assertIs(web.leans("b", "a"), False)
        self.assertIs(type(web.chain("a", "b")), list)
        self.assertIsNone(web.chain("b", "a"))
        self.assertIsNone(web.loosen("a", "b"))
        self.assertIsNone(web.take("a"))
        row = Row()
        self.assertIsNone(row.put("a"))
        self.assertIsNone(row.put("b"))
        self.assertIs(type(row.lean("a", "b")), list)
        self.assertIs(type(row.names()), list)
        self.assertIs(type(row.leanings()[0]), tuple)
        for name in ("a", "b"):
            self.assertIs(type(row.place(name)), int)
        self.assertIsNone(row.loosen("a", "b"))
        self.assertIsNone(row.take("b"))


class Form(unittest.TestCase):
    def files(self):
        for name in sorted(os.listdir(PACKAGE)):
            if name != "__pycache__":
                with open(os.path.join(PACKAGE, name), encoding="utf-8") as held:
                    yield name, held.read()

    def test_files_and_lines_keep_their_size_and_signs(self):
        for name, text in self.files():
            with self.subTest(file=name):
                self.assertTrue(name.endswith(".py"))
                rows = text.split("\n")
                self.assertLessEqual(len(rows), 400)
                self.assertLessEqual(max(len(row) for row in rows), 120)
                self.assertTrue(all(sign == "\n" or " " <= sign <= "~" for sign in text))

    def test_functions_are_at_most_forty_lines(self):
        for name, text in self.files():
            for node in ast.walk(ast.parse(text)):
                if isinstance(node, ast.FunctionDef):
                    with self.subTest(file=name, function=node.name):
                        self.assertLessEqual(node.end_lineno - node.lineno + 1, 40)

    def test_imports_come_from_the_package(self):
        for name, text in self.files():
            for node in ast.walk(ast.parse(text)):
                with self.subTest(file=name):
                    self.assertNotIsInstance(node, ast.Import)
                    if isinstance(node, ast.ImportFrom):
                        self.assertTrue(node.module.startswith("leanrow."))


if __name__ == "__main__":
    unittest.main()
