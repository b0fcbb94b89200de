"""4.3: least tables, and tables with the same values."""

import itertools
import random
import unittest

from drawn import HALF, drawn_table, far_inputs, inputs, is_right
from flatrounds.errors import OtherShape
from flatrounds.tables import Table, is_least, least, same, stretched, value
from oddthings import odder_things

GREAT = 10 ** 40 - 1


def rebuilt(table, bounds, measures):
    """The table of these bounds and measures with the values where the forms come from, or None if these fall."""
    rows = []
    for cell in itertools.product(*(range(bound + measure) for bound, measure in zip(bounds, measures))):
        bases = value(table, cell)
        steps = [[0] * len(cell) for _ in bases]
        for i, number in enumerate(cell):
            if number >= bounds[i]:
                behind = value(table, cell[:i] + (number + measures[i],) + cell[i + 1:])
                for at, base in enumerate(bases):
                    steps[at][i] = behind[at] - base
                    if behind[at] < base:
                        return None
        rows.append(tuple((base, tuple(row)) for base, row in zip(bases, steps)))
    return Table(bounds, measures, tuple(rows))


def smaller(table):
    """All bounds and measures that are at most the table's."""
    return itertools.product(itertools.product(*(range(bound + 1) for bound in table.bounds)),
                             itertools.product(*(range(1, measure + 1) for measure in table.measures)))


def drawn_tables(seed, count, most=3):
    """Tables, some of them with rests and bounds that can go."""
    chance = random.Random(seed)
    for _ in range(count):
        table = drawn_table(chance, most=most, base=chance.choice((0, 1, 3)), steps=chance.choice(((0,), (1,), (0, 1), (0, 2, 3))))
        if chance.random() < 0.5:
            table = stretched(table, tuple(bound + chance.randint(0, 2) for bound in table.bounds),
                              tuple(measure * chance.randint(1, 2) for measure in table.measures))
        yield table


class TestLeast(unittest.TestCase):
    def test_against_all_smaller_ones(self):
        for table in drawn_tables(31, 250):
            found = least(table)
            many = len(table.bounds)
            self.assertTrue(is_right(found))
            some = inputs(many, 16)
            told = [value(table, entered) for entered in some]
            self.assertEqual([value(found, entered) for entered in some], told)
            for bounds, measures in smaller(table):
                other = rebuilt(table, bounds, measures)
                if other is None or [value(other, entered) for entered in some] != told:
                    continue
                # Another table with these values: the least one's bounds are at most its, and its measures divided.
                self.assertTrue(all(one <= two for one, two in zip(found.bounds, bounds)), (table.rows, found.rows))
                self.assertTrue(all(two % one == 0 for one, two in zip(found.measures, measures)))
                if (bounds, measures) == (found.bounds, found.measures):
                    self.assertEqual(other, found)

    def test_stretched_tables_have_the_same_least_one(self):
        chance = random.Random(32)
        for table in drawn_tables(33, 300):
            found = least(table)
            for _ in range(2):
                further = stretched(table, tuple(bound + chance.randint(0, 3) for bound in table.bounds),
                                    tuple(measure * chance.randint(1, 3) for measure in table.measures))
                self.assertEqual(least(further), found)
                self.assertTrue(same(further, table))
                self.assertEqual(is_least(further), further == found)
            self.assertEqual(least(found), found)
            self.assertIs(is_least(found), True)
            self.assertIs(is_least(table), table == found)

    def test_known_by_hand(self):
        steady = Table((0,), (1,), (((0, (1,)),),))
        for table, found in (
                (stretched(steady, (5,), (12,)), steady),
                (Table((2,), (2,), (((0, (0,)),), ((3, (0,)),), ((2, (2,)),), ((3, (2,)),))),
                 Table((2,), (1,), (((0, (0,)),), ((3, (0,)),), ((2, (1,)),)))),
                (Table((0,), (4,), (((0, (2,)),), ((5, (0,)),), ((1, (2,)),), ((5, (0,)),))),
                 Table((0,), (2,), (((0, (1,)),), ((5, (0,)),)))),
                # A step of 3 in twos is none of 3 in ones.
                (Table((0,), (2,), (((0, (3,)),), ((1, (3,)),))), Table((0,), (2,), (((0, (3,)),), ((1, (3,)),)))),
                (Table((1,), (1,), (((0, (0,)),), ((0, (1,)),))), Table((1,), (1,), (((0, (0,)),), ((0, (1,)),)))),
                (Table((3,), (1,), (((9, (0,)),) * 2,) * 4), Table((0,), (1,), (((9, (0,)),) * 2,))),
                (Table((), (), (((3, ()),),)), Table((), (), (((3, ()),),))),
                # The first number's rest counts, the second one's does not.
                (Table((0, 1), (2, 1), (((0, (0, 0)),), ((4, (0, 4)),), ((1, (0, 0)),), ((5, (0, 4)),))),
                 Table((0, 0), (2, 1), (((0, (0, 4)),), ((1, (0, 4)),)))),
                # One result's bound, the other one's measure.
                (Table((2,), (4,), (((0, (0,)), (1, (0,))), ((0, (0,)), (2, (0,))), ((0, (4,)), (1, (0,))), ((1, (4,)), (2, (0,))),
                                    ((2, (4,)), (1, (0,))), ((3, (4,)), (2, (0,))))),
                 Table((2,), (2,), (((0, (0,)), (1, (0,))), ((0, (0,)), (2, (0,))), ((0, (2,)), (1, (0,))), ((1, (2,)), (2, (0,))))))):
            self.assertEqual(least(table), found)
            self.assertIs(is_least(found), True)
            self.assertIs(is_least(table), table == found)

    def test_wide_and_great_tables(self):
        chance = random.Random(34)
        for bounds, measures in (((0,), (1,)), ((0, 0), (1, 1)), ((3,), (7,)), ((2, 1), (3, 4)), ((0, 5), (2, 1))):
            rows = [((chance.randint(0, GREAT), tuple(
                chance.randint(1, 10 ** 39) if number >= bound else 0 for number, bound in zip(cell, bounds))),)
                for cell in itertools.product(*(range(bound + measure) for bound, measure in zip(bounds, measures)))]
            table = Table(bounds, measures, tuple(rows))
            self.assertEqual(least(table), table)
            wide = tuple(measure * 10 for measure in measures) if len(bounds) == 1 else tuple(measure * 2 for measure in measures)
            further = stretched(table, tuple(bound + 3 for bound in bounds), wide)
            self.assertEqual(least(further), table)
            for entered in far_inputs(chance, len(bounds), 5):
                self.assertEqual(value(further, entered), value(table, entered))
        whole = Table((500,), (500,), (((0, (0,)),) * 12,) * 1000)
        self.assertEqual(least(whole), Table((0,), (1,), (((0, (0,)),) * 12,)))

    def test_is_least_judges_any_object(self):
        for thing in odder_things() + [HALF, Table]:
            self.assertIs(is_least(thing), False)

    def test_nothing_is_changed(self):
        table = Table((1,), (2,), (((0, (0,)),), ((1, (2,)),), ((2, (2,)),)))
        kept = (table.bounds, table.measures, table.rows)
        self.assertEqual(least(table), Table((0,), (1,), (((0, (1,)),),)))
        self.assertEqual((table.bounds, table.measures, table.rows), kept)


class TestSame(unittest.TestCase):
    def test_same_and_not(self):
        for table in drawn_tables(35, 150):
            rows = list(table.rows)
            self.assertIs(same(table, Table(table.bounds, table.measures, tuple(rows))), True)
            for k in (0, len(rows) - 1):
                base, steps = rows[k][-1]
                changed = rows[:k] + [rows[k][:-1] + ((base + 1, steps),)] + rows[k + 1:]
                other = Table(table.bounds, table.measures, tuple(changed))
                self.assertIs(same(table, other), False)
                self.assertIs(same(other, table), False)

    def test_other_shape(self):
        tables = [Table((), (), (((0, ()),),)), Table((), (), (((0, ()),) * 2,)), Table((0,), (1,), (((0, (0,)),),)),
                  Table((0,), (1,), (((0, (0,)),) * 2,)), Table((0, 0), (1, 1), (((0, (0, 0)),),)),
                  Table((0, 0), (1, 1), (((0, (0, 0)),) * 2,))]
        for k, one in enumerate(tables):
            for j, other in enumerate(tables):
                if k == j:
                    self.assertIs(same(one, other), True)
                else:
                    with self.assertRaises(OtherShape):
                        same(one, other)


if __name__ == "__main__":
    unittest.main()
