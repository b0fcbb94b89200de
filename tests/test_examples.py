"""The examples of the document whose modules stand."""

import unittest

from flatrounds.asking import equations, greatest, least_input, lowest, many_inputs
from flatrounds.likeness import alike, unlike_input
from flatrounds.programs import Program
from flatrounds.pushes import gain, many_times, push_of, tail, turn, way
from flatrounds.runs import deeds, next_at, numbers_at, results
from flatrounds.tables import Table, is_least
from flatrounds.tabling import table_of

half = Program(("x",), ("h",), (
    ("round", "x", (("copy", "t", "h"), ("copy", "h", "g"), ("copy", "g", "t"), ("more", "g"))),))
less = Program(("x",), ("y",), (("round", "x", (("copy", "y", "z"), ("more", "z"))),))


class TestExamples(unittest.TestCase):
    def test_e01(self):
        self.assertEqual((results(half, (7,)), results(half, (10 ** 30,)), results(less, (0,)), results(less, (5,))),
                         ((3,), (500000000000000000000000000000,), (0,), (4,)))

    def test_e02(self):
        self.assertEqual((deeds(half, (3,)), next_at(half, (3,), 6), numbers_at(less, (2,), 3)),
                         (13, ((0, 1), 1), {"x": 2, "y": 0, "z": 1}))

    def test_e03(self):
        table = Table((0,), (2,), (((0, (1,)),), ((0, (1,)),)))
        self.assertIs(table_of(half) == table, True)
        self.assertIs(is_least(table), True)

    def test_e04(self):
        table = Table((1,), (1,), (((0, (0,)),), ((0, (1,)),)))
        self.assertIs(table_of(less) == table, True)
        self.assertIs(is_least(table), True)

    def test_e05(self):
        self.assertEqual((alike(half, less), unlike_input(half, less)), (False, (3,)))

    def test_e06(self):
        deeds = (("copy", "c", "a"), ("copy", "a", "b"), ("copy", "b", "c"), ("more", "b"))
        self.assertEqual(push_of(("a", "b", "c"), deeds), {"a": ("b", 0), "b": ("a", 1), "c": ("a", 0)})

    def test_e07(self):
        p = {"a": ("b", 0), "b": ("a", 1), "c": ("a", 0)}
        self.assertEqual(
            (way(p, "c"), gain(p, "c"), tail(p), turn(p), many_times(p, 5)),
            ((("c",), ("a", "b")), 1, 1, 2, {"a": ("b", 2), "b": ("a", 3), "c": ("a", 2)}))

    def test_e08(self):
        table = table_of(half)
        self.assertEqual((least_input(table, 0, 4), many_inputs(table, 0, 4), greatest(table, 0), lowest(table_of(less), 0)),
                         ((8,), 2, None, (0, (0,))))

    def test_e09(self):
        self.assertEqual(equations(Table((0, 0), (1, 1), (((0, (1, 1)), (3, (2, 0))),))), [(3, 0, -2, 2, -1), (0, 1, 1, -1, 0)])


if __name__ == "__main__":
    unittest.main()
