"""The names, arguments and files of the interface, and the plain sides of the form that the package keeps."""

import ast
import inspect
import os
import unittest

from leanrow import layers, ways
from leanrow.logs import Log
from leanrow.rows import Row
from leanrow.webs import Web

ROOT = os.path.dirname(os.path.dirname(os.path.abspath(__file__)))
PACKAGE = os.path.join(ROOT, "leanrow")

METHODS = {
    Web: {"put": ["name"], "take": ["name"], "lean": ["name", "other"], "loosen": ["name", "other"], "things": [],
          "leanings": [], "leans": ["name", "other"], "chain": ["name", "other"]},
    Row: {"put": ["name"], "take": ["name"], "lean": ["name", "other"], "loosen": ["name", "other"], "names": [],
          "place": ["name"], "leanings": []},
    Log: {"put": ["name"], "take": ["name"], "lean": ["name", "other"], "loosen": ["name", "other"], "back": [],
          "again": [], "names": [], "leanings": [], "many": []},
}

FUNCTIONS = {
    layers: {"level_of": ["row", "name"], "layers_of": ["row"], "longest_of": ["row"]},
    ways: {"first_row": ["row"], "is_right": ["row", "thing"], "way_to": ["row", "names"]},
}


class Interface(unittest.TestCase):
    def test_each_class_is_defined_in_its_file(self):
        self.assertEqual(Web.__module__, "leanrow.webs")
        self.assertEqual(Row.__module__, "leanrow.rows")
        self.assertEqual(Log.__module__, "leanrow.logs")

    def test_each_function_is_defined_in_its_file_with_its_arguments(self):
        for module, functions in FUNCTIONS.items():
            for name, arguments in functions.items():
                with self.subTest(function=name):
                    told = vars(module)[name]
                    self.assertTrue(inspect.isfunction(told))
                    self.assertEqual(told.__module__, module.__name__)
                    self.assertEqual(list(inspect.signature(told).parameters), arguments)

    def test_arguments_of_functions_go_by_their_names(self):
        row = Row()
        row.put("b")
        row.put("a")
        self.assertEqual(layers.level_of(name="a", row=row), 0)
        self.assertEqual(layers.layers_of(row=row), [["a", "b"]])
        self.assertEqual(len(layers.longest_of(row=row)), 1)
        self.assertEqual(ways.first_row(row=row), ["a", "b"])
        self.assertIs(ways.is_right(thing=["a", "b"], row=row), True)
        self.assertEqual(ways.way_to(names=["a", "b"], row=row), [("b", "a")])

    def test_each_class_is_made_of_nothing_and_without_things(self):
        self.assertEqual((Web().things(), Web().leanings()), ([], []))
        self.assertEqual((Row().names(), Row().leanings()), ([], []))
        self.assertEqual((Log().names(), Log().leanings(), Log().many()), ([], [], (0, 0)))
        for made in (Web, Row, Log):
            self.assertEqual(list(inspect.signature(made).parameters), [])

    def test_each_method_stands_in_the_class_itself_with_its_arguments(self):
        for made, methods in METHODS.items():
            for name, arguments in methods.items():
                with self.subTest(made=made.__name__, method=name):
                    self.assertIn(name, vars(made))
                    self.assertEqual(list(inspect.signature(getattr(made(), name)).parameters), arguments)

    def test_arguments_go_by_their_names(self):
        for made in (Web, Row, Log):
            target = made()
            self.assertIsNone(target.put(name="a"))
            self.assertIsNone(target.put(name="b"))
            target.lean(name="a", other="b")
            self.assertEqual(target.leanings(), [("a", "b")])
            self.assertIsNone(target.loosen(other="b", name="a"))
            self.assertIsNone(target.take(name="b"))
        web = Web()
        web.put(name="a")
        self.assertIs(web.leans(name="a", other="a"), False)
        self.assertEqual(web.chain(name="a", other="a"), ["a"])
        row = Row()
        row.put(name="a")
        self.assertEqual(row.place(name="a"), 0)

    def test_kinds_of_what_is_told(self):
        web = Web()
        self.assertIsNone(web.put("a"))
        self.assertIsNone(web.put("b"))
        self.assertIsNone(web.lean("a", "b"))
        self.assertIs(type(web.things()), list)
        self.assertIs(type(web.leanings()), list)
        self.assertIs(type(web.leanings()[0]), tuple)
        self.assertIs(web.leans("a", "b"), True)
        self.assertIs(web.leans("b", "a"), False)
        self.assertIs(type(web.chain("a", "b")), list)
        self.assertIsNone(web.chain("b", "a"))
        self.assertIsNone(web.loosen("a", "b"))
        self.assertIsNone(web.take("a"))
        row = Row()
        self.assertIsNone(row.put("a"))
        self.assertIsNone(row.put("b"))
        self.assertIs(type(row.lean("a", "b")), list)
        self.assertIs(type(row.names()), list)
        self.assertIs(type(row.leanings()[0]), tuple)
        for name in ("a", "b"):
            self.assertIs(type(row.place(name)), int)
        self.assertIsNone(row.loosen("a", "b"))
        self.assertIsNone(row.take("b"))

    def test_kinds_of_what_a_log_tells(self):
        log = Log()
        self.assertIsNone(log.put("a"))
        self.assertIsNone(log.put("b"))
        self.assertIs(type(log.lean("a", "b")), list)
        self.assertIs(type(log.names()), list)
        self.assertIs(type(log.leanings()), list)
        self.assertIs(type(log.leanings()[0]), tuple)
        self.assertIsNone(log.loosen("a", "b"))
        self.assertIsNone(log.take("a"))
        self.assertIsNone(log.back())
        self.assertIsNone(log.back())
        self.assertIsNone(log.again())
        self.assertIs(type(log.many()), tuple)
        self.assertEqual([(type(count), count) for count in log.many()], [(int, 4), (int, 1)])

    def test_kinds_of_what_the_functions_tell(self):
        row = Row()
        row.put("a")
        row.put("b")
        row.lean("a", "b")
        self.assertIs(type(layers.level_of(row, "a")), int)
        self.assertIs(type(layers.level_of(row, "b")), int)
        self.assertEqual([type(layer) for layer in layers.layers_of(row)], [list, list])
        self.assertIs(type(layers.layers_of(row)), list)
        self.assertIs(type(layers.longest_of(row)), list)
        self.assertIs(type(ways.first_row(row)), list)
        self.assertIs(ways.is_right(row, ["b", "a"]), True)
        self.assertIs(ways.is_right(row, None), False)
        row.loosen("a", "b")
        self.assertIs(type(ways.way_to(row, ["a", "b"])), list)
        self.assertIs(type(ways.way_to(row, ["a", "b"])[0]), tuple)


class Form(unittest.TestCase):
    def files(self):
        for name in sorted(os.listdir(PACKAGE)):
            if name != "__pycache__":
                with open(os.path.join(PACKAGE, name), encoding="utf-8") as held:
                    yield name, held.read()

    def test_files_and_lines_keep_their_size_and_signs(self):
        for name, text in self.files():
            with self.subTest(file=name):
                self.assertTrue(name.endswith(".py"))
                rows = text.split("\n")
                self.assertLessEqual(len(rows), 400)
                self.assertLessEqual(max(len(row) for row in rows), 120)
                self.assertTrue(all(sign == "\n" or " " <= sign <= "~" for sign in text))

    def test_functions_are_at_most_forty_lines(self):
        for name, text in self.files():
            for node in ast.walk(ast.parse(text)):
                if isinstance(node, ast.FunctionDef):
                    with self.subTest(file=name, function=node.name):
                        self.assertLessEqual(node.end_lineno - node.lineno + 1, 40)

    def test_imports_come_from_the_package(self):
        for name, text in self.files():
            for node in ast.walk(ast.parse(text)):
                with self.subTest(file=name):
                    self.assertNotIsInstance(node, ast.Import)
                    if isinstance(node, ast.ImportFrom):
                        self.assertTrue(node.module.startswith("leanrow."))


if __name__ == "__main__":
    unittest.main()
