"""4.1: what a table is, what is wrong first of what is none, and equality."""

import random
import unittest

from drawn import drawn_table
from flatrounds.errors import BadTable
from flatrounds.tables import Table, is_bounds, is_measures, stretched
from oddthings import LESS, nested, odd_things, odder_things

GREAT = 10 ** 40 - 1
# One number, with a bound of 1 and a measure of 2: three cells.
ARGS = ((1,), (2,), (((7, (0,)), (1, (0,))), ((0, (3,)), (2, (0,))), ((9, (0,)), (5, (1,)))))
# Two numbers, the first one with a bound of 1: cells (0, 0) and (1, 0).
TWO = ((1, 0), (1, 1), (((0, (0, 2)),), ((1, (3, 2)),)))
NONE = ((), (), (((4, ()), (5, ())),))
RIGHT_FORM = (0, (0,))


def rows_with(k, row):
    return ARGS[2][:k] + (row,) + ARGS[2][k + 1:]


class TestTable(unittest.TestCase):
    def assert_bad(self, part, index, bounds, measures, rows):
        with self.assertRaises(BadTable) as caught:
            Table(bounds, measures, rows)
        self.assertEqual((caught.exception.part, caught.exception.index), (part, index), repr(rows)[:100])
        self.assertIs(caught.exception.index.__class__, int)

    def test_right_tables_keep_what_they_were_made_of(self):
        many = (((0, (0,)),) * 12,)
        for bounds, measures, rows in (
                ARGS, TWO, NONE, ((0,), (1,), (((GREAT, (GREAT,)),),)), ((0,), (1,), many),
                ((999,), (1,), (((1, (0,)),),) * 1000), ((0,), (1000,), (((1, (5,)),),) * 1000),
                ((30, 0), (1, 32), (((1, (0, 0)),),) * 992), ((24, 24), (1, 16), (((1, (0, 0)),),) * 1000),
                ((), (), (((0, ()),) * 12,))):
            table = Table(bounds, measures, rows)
            self.assertEqual((table.bounds, table.measures, table.rows), (bounds, measures, rows))

    def test_bounds(self):
        for wrong in ([1], 1, None, (-1,), (True,), (1.0,), ("1",), (None,), ((1,),), (0, 0, 0), (0, -1), {}, {0: 1}, "", b"",
                      LESS, (LESS,), nested(tuple, 40), range(1), (GREAT, False)):
            for measures, rows in ((ARGS[1], ARGS[2]), (None, None)):
                self.assert_bad("bounds", -1, wrong, measures, rows)

    def test_measures(self):
        for wrong in ([2], 2, None, (0,), (-2,), (True,), (2.0,), ("2",), (None,), ((2,),), (), (2, 2), (2, 0), {}, "", LESS,
                      (LESS,), nested(tuple, 40)):
            for rows in (ARGS[2], None):
                self.assert_bad("measures", -1, ARGS[0], wrong, rows)
        for wrong in ((0, 1), (1, 0), (1,), (1, 1, 1), [1, 1], (1, False)):
            self.assert_bad("measures", -1, TWO[0], wrong, TWO[2])
        for wrong in ((1,), [], None, {}):
            self.assert_bad("measures", -1, (), wrong, NONE[2])

    def test_cells(self):
        row = ((0, (0,)),)
        for bounds, measures in (((1000,), (1,)), ((0,), (1001,)), ((GREAT,), (GREAT,)), ((30, 30), (1, 3)), ((0, 0), (1, 1001)),
                                 ((GREAT, 0), (1, 1)), ((31, 31), (1, 1))):
            for rows in ((row,) * 1001, (), None, ARGS[2]):
                self.assert_bad("cells", -1, bounds, measures, rows)

    def test_rows(self):
        for wrong in (list(ARGS[2]), None, (), ARGS[2][:2], ARGS[2] + ARGS[2][:1], {}, "abc", 3, LESS, range(3), ARGS[2][:1] * 4,
                      nested(tuple, 40)):
            self.assert_bad("rows", -1, ARGS[0], ARGS[1], wrong)
        self.assert_bad("rows", -1, (), (), ())
        self.assert_bad("rows", -1, (), (), NONE[2] * 2)

    def test_first_wrong_row(self):
        other = RIGHT_FORM
        for wrong in ((), None, [other, other], "ab", (other, None), (None, other), (other, (0,)), (other, (0, (0,), 0)),
                      (other, [0, (0,)]), (other, (0, [0])), (other, (0, 0)), (other, (0, ())), (other, (0, (0, 0))),
                      (other, (-1, (0,))), (other, (True, (0,))), (other, (0, (True,))), (other, (0, (-1,))),
                      (other, (0, (None,))), (other, ("0", (0,))), (other, LESS), LESS, (other, (LESS, (0,))),
                      (other, (0, LESS)), (other, (0, (LESS,))), nested(tuple, 40), (other, nested(tuple, 39)), {}, 0,
                      (other,) * 13):
            for k in range(3):
                rows = rows_with(k, wrong)
                self.assert_bad("rows", k, ARGS[0], ARGS[1], rows)
                self.assert_bad("rows", k, ARGS[0], ARGS[1], rows[:k + 1] + (None,) * (2 - k))
        # The first row tells how many forms there are.
        self.assert_bad("rows", 1, ARGS[0], ARGS[1], rows_with(0, (other,)))
        self.assert_bad("rows", 2, ARGS[0], ARGS[1], rows_with(2, (other,)))
        self.assert_bad("rows", 1, ARGS[0], ARGS[1], rows_with(1, (other,) * 3))
        self.assert_bad("rows", 0, (), (), (((0, ()), (0, (0,))),))

    def test_steps_of_small_numbers_are_none(self):
        self.assert_bad("rows", 0, ARGS[0], ARGS[1], rows_with(0, (RIGHT_FORM, (0, (1,)))))
        for k, steps in ((0, (1, 0)), (0, (1, 2)), (1, (0,)), (0, ())):
            rows = TWO[2][:k] + (((0, steps),),) + TWO[2][k + 1:]
            self.assert_bad("rows", k, TWO[0], TWO[1], rows)
        bounds, measures = (0, 1), (1, 1)
        Table(bounds, measures, (((0, (1, 0)),), ((0, (1, 1)),)))
        self.assert_bad("rows", 0, bounds, measures, (((0, (1, 1)),), ((0, (1, 1)),)))
        self.assert_bad("rows", 0, bounds, measures, (((0, (0, 1)),), ((0, (1, 1)),)))

    def test_any_object_is_judged(self):
        for thing in odd_things():
            for bounds, measures, rows in (
                    (thing, (1,), ()), ((thing,), (1,), ()), ((0,), thing, ()), ((0,), (thing,), ()), ((0,), (1,), thing),
                    ((0,), (1,), (thing,)), ((0,), (1,), ((thing,),)), ((0,), (1,), (((thing, (0,)),),)),
                    ((0,), (1,), (((0, thing),),)), ((0,), (1,), (((0, (thing,)),),)), ((), (), thing), ((), (), (thing,))):
                try:
                    Table(bounds, measures, rows)
                except BadTable:
                    pass

    def test_judges_of_bounds_and_measures(self):
        for thing in odder_things():
            self.assertIs(is_bounds(thing).__class__, bool)
            self.assertIs(is_measures(thing, 1).__class__, bool)


class TestEquality(unittest.TestCase):
    def test_tables(self):
        one = Table(*ARGS)
        self.assertIs(one == Table(*ARGS), True)
        self.assertIs(one != Table(*ARGS), False)
        for other in (Table((0,), (3,), ARGS[2][1:2] * 3), Table(ARGS[0], ARGS[1], rows_with(1, ((0, (3,)), (2, (1,))))),
                      Table((2,), (1,), ARGS[2][:1] * 3), Table((0,), (3,), ARGS[2]), Table(*TWO), Table(*NONE)):
            self.assertIs(one == other, False)
            self.assertIs(one != other, True)

    def test_same_values_are_not_equal_tables(self):
        table = Table((0,), (1,), (((0, (1,)),),))
        self.assertFalse(table == stretched(table, (0,), (2,)))
        self.assertTrue(stretched(table, (0,), (1,)) == table)

    def test_other_things(self):
        one = Table(*ARGS)
        for thing in odder_things():
            self.assertIs(one == thing, False)
            self.assertIs(one != thing, True)
            self.assertIs(thing == one, False)
        self.assertFalse(one == ARGS)

    def test_equality_asks_no_object_of_another_class(self):
        class Agreeing:
            bounds, measures, rows = ARGS

            def __eq__(self, other):
                return True

        self.assertFalse(Table(*ARGS) == Agreeing())
        self.assertTrue(Table(*ARGS) != Agreeing())

    def test_drawn_tables(self):
        chance = random.Random(1)
        for _ in range(100):
            table = drawn_table(chance)
            self.assertTrue(Table(table.bounds, table.measures, table.rows) == table)


if __name__ == "__main__":
    unittest.main()
