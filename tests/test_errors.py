"""The classes of errors, and Ring with its field."""

import unittest

from leanrow import errors

KINDS = ["BadName", "Twice", "TooMany", "NoThing", "NoLeaning", "BadRow", "NothingDone", "Ring"]


class Classes(unittest.TestCase):
    def test_lean_error_is_a_value_error(self):
        self.assertEqual(errors.LeanError.__bases__, (ValueError,))

    def test_each_kind_stands_straight_under_lean_error(self):
        for kind in KINDS:
            with self.subTest(kind=kind):
                self.assertEqual(getattr(errors, kind).__bases__, (errors.LeanError,))

    def test_each_is_defined_in_its_file(self):
        for kind in KINDS + ["LeanError"]:
            with self.subTest(kind=kind):
                self.assertEqual(getattr(errors, kind).__module__, "leanrow.errors")

    def test_none_is_caught_as_another_one(self):
        for kind in KINDS:
            for other in KINDS:
                with self.subTest(kind=kind, other=other):
                    self.assertEqual(issubclass(getattr(errors, kind), getattr(errors, other)), kind == other)


class RingError(unittest.TestCase):
    def test_the_field_is_a_list_of_the_same_things(self):
        self.assertEqual(errors.Ring(["a", "b", "c"]).ring, ["a", "b", "c"])
        self.assertEqual(errors.Ring(["a"]).ring, ["a"])
        self.assertIs(type(errors.Ring(["a", "b"]).ring), list)

    def test_the_list_that_is_handed_in_is_neither_changed_nor_kept(self):
        handed = ["a", "b"]
        refused = errors.Ring(handed)
        self.assertIsNot(refused.ring, handed)
        self.assertFalse(any(kept is handed for kept in refused.args))
        handed.append("c")
        self.assertEqual(refused.ring, ["a", "b"])
        refused.ring.clear()
        self.assertEqual(handed, ["a", "b", "c"])

    def test_two_rings_have_a_list_each(self):
        handed = ["a", "b"]
        first, second = errors.Ring(handed), errors.Ring(handed)
        first.ring.append("c")
        self.assertEqual(second.ring, ["a", "b"])

    def test_it_is_raised_and_caught_as_a_refusal(self):
        with self.assertRaises(errors.LeanError) as caught:
            raise errors.Ring(["a"])
        self.assertEqual(caught.exception.ring, ["a"])
        self.assertIs(type(str(caught.exception)), str)


if __name__ == "__main__":
    unittest.main()
