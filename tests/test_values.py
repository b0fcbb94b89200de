"""4.2: values, cells, rows and stretched tables."""

import random
import unittest

from drawn import cells_by_hand, drawn_table, far_inputs, inputs, is_right, value_by_hand
from flatrounds.errors import NoCell, NoInput, NoStretch, TooMany
from flatrounds.tables import Table, cell_of, cells, row_of, stretched, value
from oddthings import LESS, nested, odd_things

GREAT = 10 ** 40 - 1
# Cells 0, 1 (small), 2, 3, 4 (great, in threes).
ONE = Table((2,), (3,), (((5, (0,)),), ((6, (0,)),), ((0, (1,)),), ((1, (10,)),), ((7, (0,)),)))
TWO = Table((1, 0), (1, 2), (((0, (0, 2)),), ((1, (0, 3)),), ((2, (5, 7)),), ((3, (0, 0)),)))
NONE = Table((), (), (((4, ()), (5, ())),))


class TestValues(unittest.TestCase):
    def test_known_by_hand(self):
        self.assertEqual([value(ONE, (number,)) for number in range(12)],
                         [(5,), (6,), (0,), (1,), (7,), (1,), (11,), (7,), (2,), (21,), (7,), (3,)])
        self.assertEqual(value(ONE, (3 + 3 * 10 ** 38,)), (1 + 10 ** 39,))
        self.assertEqual([value(TWO, (one, two)) for one in range(3) for two in range(5)],
                         [(0,), (1,), (2,), (4,), (4,), (2,), (3,), (9,), (3,), (16,), (7,), (3,), (14,), (3,), (21,)])
        self.assertEqual(value(TWO, (1 + 10 ** 39, 2 * 10 ** 39)), (2 + 12 * 10 ** 39,))
        self.assertEqual((value(NONE, ()), cell_of(NONE, ()), cells(NONE), row_of(NONE, ())), ((4, 5), (), [()], NONE.rows[0]))

    def test_drawn_tables(self):
        chance = random.Random(21)
        for _ in range(400):
            table = drawn_table(chance)
            kept = (table.bounds, table.measures, table.rows)
            many = len(table.bounds)
            for entered in inputs(many, 11) + far_inputs(chance, many, 8):
                found = value(table, entered)
                self.assertEqual(found, value_by_hand(table, entered), (kept, entered))
                self.assertIs(found.__class__, tuple)
            self.assertEqual((table.bounds, table.measures, table.rows), kept)

    def test_cells_and_rows(self):
        chance = random.Random(22)
        for _ in range(200):
            table = drawn_table(chance)
            found = cells(table)
            self.assertEqual(found, cells_by_hand(table.bounds, table.measures))
            self.assertEqual(found, sorted(found))
            self.assertEqual([row_of(table, cell) for cell in found], list(table.rows))
            self.assertEqual([cell_of(table, cell) for cell in found], found)
            self.assertEqual([value(table, cell) for cell in found],
                             [tuple(base for base, _ in row) for row in table.rows])
            found.append(None)
            self.assertEqual(len(cells(table)), len(table.rows))

    def test_each_input_is_of_one_cell(self):
        self.assertEqual([cell_of(ONE, (number,)) for number in range(9)],
                         [(0,), (1,), (2,), (3,), (4,), (2,), (3,), (4,), (2,)])
        self.assertEqual(cell_of(ONE, (GREAT - 1,)), ((GREAT - 1 - 2) % 3 + 2,))
        self.assertEqual(cell_of(TWO, (GREAT, GREAT)), (1, 1))
        self.assertEqual(cell_of(TWO, (0, GREAT - 1)), (0, 0))

    def test_no_input(self):
        for table, wrong in ((ONE, ((), (1, 2), [1], (True,), (-1,), 1, None, (None,), ("1",), LESS, (LESS,), {}, {0: 1})),
                             (TWO, ((), (1,), (1, 2, 3), (1, True), (-1, 1), [1, 2])), (NONE, ((1,), [], {}, None, 0, ""))):
            for entered in wrong:
                for ask in (value, cell_of):
                    with self.subTest(entered=repr(entered)), self.assertRaises(NoInput):
                        ask(table, entered)
        for thing in odd_things():
            for ask in (value, cell_of):
                with self.subTest(thing=repr(thing)), self.assertRaises(NoInput):
                    ask(ONE, thing)
                with self.subTest(thing=repr(thing)), self.assertRaises(NoInput):
                    ask(TWO, (thing, 1.5))

    def test_no_cell(self):
        for table, wrong in ((ONE, ((5,), (GREAT,), (), (1, 2), [1], (True,), (-1,), 1, None, "1", LESS, nested(tuple, 40))),
                             (TWO, ((2, 0), (0, 2), (0,), (0, 0, 0), (0, False), (1, -1), (GREAT, GREAT))),
                             (NONE, ((0,), [], None, {}))):
            for cell in wrong:
                with self.subTest(cell=repr(cell)), self.assertRaises(NoCell):
                    row_of(table, cell)
        for thing in odd_things():
            with self.subTest(thing=repr(thing)), self.assertRaises(NoCell):
                row_of(ONE, thing)
            with self.subTest(thing=repr(thing)), self.assertRaises(NoCell):
                row_of(TWO, (0, (thing,)))


class TestStretched(unittest.TestCase):
    def test_known_by_hand(self):
        self.assertEqual(stretched(ONE, (3,), (6,)), Table((3,), (6,), (
            ((5, (0,)),), ((6, (0,)),), ((0, (0,)),), ((1, (20,)),), ((7, (0,)),), ((1, (2,)),), ((11, (20,)),), ((7, (0,)),),
            ((2, (2,)),))))
        self.assertEqual(stretched(TWO, (1, 1), (2, 2)), Table((1, 1), (2, 2), (
            ((0, (0, 0)),), ((1, (0, 3)),), ((2, (0, 2)),), ((2, (10, 0)),), ((3, (0, 0)),), ((9, (10, 7)),), ((7, (10, 0)),),
            ((3, (0, 0)),), ((14, (10, 7)),))))
        self.assertEqual(stretched(NONE, (), ()), NONE)

    def test_drawn_tables_keep_their_values(self):
        chance = random.Random(23)
        for _ in range(400):
            table = drawn_table(chance)
            many = len(table.bounds)
            bounds = tuple(bound + chance.randint(0, 4) for bound in table.bounds)
            measures = tuple(measure * chance.randint(1, 3) for measure in table.measures)
            found = stretched(table, bounds, measures)
            self.assertEqual((found.bounds, found.measures), (bounds, measures))
            self.assertTrue(is_right(found))
            for entered in inputs(many, 13) + far_inputs(chance, many, 5):
                self.assertEqual(value(found, entered), value(table, entered))
            self.assertEqual(stretched(table, table.bounds, table.measures), table)

    def test_greater_numbers_than_can_be_passed(self):
        table = Table((0,), (1,), (((0, (GREAT,)),),))
        found = stretched(table, (0,), (1000,))
        self.assertEqual(found.rows[999], ((999 * GREAT, (1000 * GREAT,)),))
        self.assertEqual(value(found, (GREAT,)), (GREAT * GREAT,))
        self.assertEqual(stretched(found, (0,), (1000,)), found)

    def test_no_stretch(self):
        for bounds, measures in (
                ((1,), (3,)), ((2,), (2,)), ((2,), (4,)), ((2,), (0,)), ((2,), (-3,)), ((2,), ()), ((), (3,)), ((2, 2), (3, 3)),
                ([2], (3,)), ((2,), [3]), ((True,), (3,)), ((2,), (True,)), (None, (3,)), ((2,), None), (2, 3), ((2,), ("3",)),
                (("2",), (3,)), (LESS, (3,)), ((2,), LESS), ((LESS,), (3,)), ((-1,), (3,)), ((GREAT,), (GREAT + 1,)),
                (nested(tuple, 40), (3,)), ((1000,), (4,)), ((0,), (3000,))):
            with self.subTest(bounds=repr(bounds), measures=repr(measures)), self.assertRaises(NoStretch):
                stretched(ONE, bounds, measures)
        for bounds, measures in (((0, 0), (1, 2)), ((1, 0), (1, 3)), ((1, 0), (0, 2)), ((1,), (1,)), ((1, 0, 0), (1, 2, 1))):
            with self.assertRaises(NoStretch):
                stretched(TWO, bounds, measures)
        for bounds, measures in (((0,), ()), ((), (1,)), ([], ()), ((), []), (None, None)):
            with self.assertRaises(NoStretch):
                stretched(NONE, bounds, measures)
        for thing in odd_things():
            for bounds, measures in ((thing, (3,)), ((2,), thing), ((thing, 1.5), (3,)), (thing, thing)):
                with self.subTest(thing=repr(thing)), self.assertRaises(NoStretch):
                    stretched(ONE, bounds, measures)

    def test_too_many(self):
        self.assertEqual(len(stretched(ONE, (997,), (3,)).rows), 1000)
        self.assertEqual(len(stretched(ONE, (2,), (996,)).rows), 998)
        self.assertEqual(len(stretched(TWO, (24, 20), (1, 20)).rows), 1000)
        for table, bounds, measures in ((ONE, (998,), (3,)), (ONE, (2,), (999,)), (ONE, (GREAT,), (3,)), (ONE, (2,), (3 * 10 ** 39,)),
                                        (TWO, (24, 21), (1, 20)), (TWO, (GREAT, GREAT), (GREAT, 10 ** 39))):
            with self.assertRaises(TooMany) as caught:
                stretched(table, bounds, measures)
            self.assertEqual(caught.exception.most, 1000)


if __name__ == "__main__":
    unittest.main()
