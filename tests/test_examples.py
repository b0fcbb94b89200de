"""The examples of the document whose modules stand."""

import unittest

from flatrounds.pushes import gain, many_times, push_of, tail, turn, way


class TestExamples(unittest.TestCase):
    def test_e06(self):
        deeds = (("copy", "c", "a"), ("copy", "a", "b"), ("copy", "b", "c"), ("more", "b"))
        self.assertEqual(push_of(("a", "b", "c"), deeds), {"a": ("b", 0), "b": ("a", 1), "c": ("a", 0)})

    def test_e07(self):
        p = {"a": ("b", 0), "b": ("a", 1), "c": ("a", 0)}
        self.assertEqual(
            (way(p, "c"), gain(p, "c"), tail(p), turn(p), many_times(p, 5)),
            ((("c",), ("a", "b")), 1, 1, 2, {"a": ("b", 2), "b": ("a", 3), "c": ("a", 2)}))


if __name__ == "__main__":
    unittest.main()
