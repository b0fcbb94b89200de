"""7.2: all linear equations that hold for all inputs of a table."""

import math
import random
import unittest
from fractions import Fraction

from drawn import drawn_table, far_inputs, inputs
from flatrounds.asking import equations
from flatrounds.building import beside, picked, summed
from flatrounds.tables import Table, stretched, value

GREAT = 10 ** 40 - 1


def cleared(rows):
    """The rows by fractions in which each one's first item that is not 0 is 1 and alone in its column, in steps."""
    rows = [[Fraction(item) for item in row] for row in rows]
    found = []
    for column in range(len(rows[0]) if rows else 0):
        row = next((row for row in rows if row[column] != 0), None)
        if row is None:
            continue
        rows = [other for other in rows if other is not row]
        row = [item / row[column] for item in row]
        rows = [[item - other[column] * part for item, part in zip(other, row)] for other in rows]
        found = [[item - other[column] * part for item, part in zip(other, row)] for other in found] + [row]
    return found


def equations_by_hand(table):
    """From the values at many inputs, by fractions."""
    told = cleared([(1, *entered, *value(table, entered)) for entered in inputs(len(table.bounds), 11)])
    width = 1 + len(table.bounds) + len(table.rows[0])
    firsts = [next(column for column, item in enumerate(row) if item) for row in told]
    found = []
    for free in range(width):
        if free not in firsts:
            row = [Fraction(0)] * width
            row[free] = Fraction(1)
            for first, other in zip(firsts, told):
                row[first] = -other[free]
            found.append(row)
    rows = []
    for row in cleared(found):
        common = math.lcm(*(item.denominator for item in row))
        whole = [int(item * common) for item in row]
        rows.append(tuple(item // math.gcd(*whole) for item in whole))
    return rows


class TestEquations(unittest.TestCase):
    def test_known_by_hand(self):
        for table, found in (
                (Table((0, 0), (1, 1), (((0, (1, 1)), (3, (2, 0))),)), [(3, 0, -2, 2, -1), (0, 1, 1, -1, 0)]),
                (Table((0,), (1,), (((0, (0,)),),)), [(0, 0, 1)]),
                (Table((0,), (1,), (((5, (0,)),),)), [(5, 0, -1)]),
                (Table((0,), (1,), (((5, (10,)),),)), [(5, 10, -1)]),
                (Table((0,), (1,), (((4, (6,)),),)), [(4, 6, -1)]),
                (Table((0,), (2,), (((0, (1,)),), ((0, (1,)),))), [])):
            self.assertEqual(equations(table), found)
            self.assertEqual(equations_by_hand(table), found)

    def test_no_input_numbers(self):
        self.assertEqual(equations(Table((), (), (((4, ()),),))), [(4, -1)])
        self.assertEqual(equations(Table((), (), (((0, ()),),))), [(0, 1)])
        # 6 ones are the second result; 3 times the first one is 2 times the second one.
        self.assertEqual(equations(Table((), (), (((4, ()), (6, ())),))), [(6, 0, -1), (0, 3, -2)])

    def test_halves(self):
        # The two halves, downward and upward, and the rest: x is their sum, and the rest what they differ by.
        table = Table((0,), (2,), (((0, (1,)), (0, (1,)), (0, (0,))), ((0, (1,)), (1, (1,)), (1, (0,)))))
        self.assertEqual(equations(table), [(0, 1, 0, -2, 1), (0, 0, 1, -1, 1)])

    def test_drawn_tables(self):
        chance = random.Random(71)
        many = 0
        for _ in range(400):
            table = drawn_table(chance, most=chance.choice((1, 1, 2, 3)), results=chance.randint(1, 4))
            width = len(table.rows[0])
            if chance.random() < 0.5:
                table = picked(table, tuple(chance.randrange(width) for _ in range(chance.randint(1, 4))))
            if chance.random() < 0.5:
                table = beside(table, summed(table, tuple(chance.randint(0, 3) for _ in table.rows[0])))
            found = equations(table)
            self.assertIs(found.__class__, list)
            self.assertEqual(found, equations_by_hand(table), table.rows)
            for row in found:
                for entered in far_inputs(chance, len(table.bounds), 4):
                    self.assertEqual(sum(many * item for many, item in zip(row, (1, *entered, *value(table, entered)))), 0)
            many += len(found)
        self.assertGreater(many, 300)

    def test_values_alone_count(self):
        chance = random.Random(72)
        for _ in range(60):
            table = drawn_table(chance, most=1)
            further = stretched(table, tuple(bound + 2 for bound in table.bounds), tuple(2 * measure for measure in table.measures))
            self.assertEqual(equations(further), equations(table))

    def test_great_numbers(self):
        table = Table((0, 0), (1, 1), (((GREAT, (10 ** 39, 3)), (1, (GREAT, GREAT - 1)), (0, (1, 1))),))
        found = equations(table)
        self.assertEqual(len(found), 3)
        for row in found:
            self.assertEqual(math.gcd(*row), 1)
            for entered in ((0, 0), (GREAT, 1), (7, GREAT), (12345, 54321)):
                self.assertEqual(sum(many * item for many, item in zip(row, (1, *entered, *value(table, entered)))), 0)

    def test_many_results_and_cells(self):
        chance = random.Random(73)
        rows = tuple(tuple((chance.randint(0, 9), (chance.randint(0, 9), chance.randint(0, 9))) for _ in range(12)) for _ in range(992))
        self.assertEqual(equations(Table((0, 0), (31, 32), rows)), [])
        rows = tuple(tuple((k % 31, (k // 31, 1)) for _ in range(12)) for k in range(992))
        found = equations(Table((0, 0), (31, 32), rows))
        self.assertEqual(found, [(0, 0, 0, *(1 if k == j else -1 if k == 11 else 0 for k in range(12))) for j in range(11)])


if __name__ == "__main__":
    unittest.main()
