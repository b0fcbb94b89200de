"""7.3: two inputs with the same results, and tables turned about."""

import random
import unittest

from drawn import DOUBLE, HALF, drawn_table, is_right
from flatrounds.asking import same_results, turned_about
from flatrounds.errors import NotOne, NotUnlike, TooMany
from flatrounds.tables import Table, is_least, stretched, value
from flatrounds.tabling import table_of
from oddthings import LESS

GREAT = 10 ** 40 - 1
STEPS = ((0, 0, 1, 2, 3), (1, 2, 3), (4, 6, 10, 12), (12,), (5, 10), (4, 4, 8), (3, 3, 3, 6))
NOT_ONE = (Table((), (), (((0, ()),),)), Table((0, 0), (1, 1), (((0, (1, 1)),),)), Table((), (), (((0, ()),) * 2,)))


def of_one(bound, measure, *forms):
    """A table of inputs of one number and one result."""
    return Table((bound,), (measure,), tuple(((base, (step,)),) for base, step in forms))


class TestSameResults(unittest.TestCase):
    def assert_pair(self, table, pair):
        self.assertIs(pair.__class__, tuple)
        one, other = pair
        self.assertEqual((len(one), len(other)), (1, 1))
        self.assertLess(one, other)
        self.assertEqual(value(table, one), value(table, other))

    def test_against_a_search(self):
        chance = random.Random(81)
        found = 0
        for _ in range(1500):
            table = drawn_table(chance, 1, most=4, base=chance.choice((3, 10, 30, 100)), steps=chance.choice(STEPS))
            seen = {}
            twice = any(seen.setdefault(value(table, (number,)), number) != number for number in range(200))
            pair = same_results(table)
            if pair is None:
                self.assertFalse(twice, table.rows)
            else:
                found += 1
                self.assert_pair(table, pair)
            self.assertEqual(same_results(table), pair)
        self.assertTrue(300 < found < 1200)

    def test_known_by_hand(self):
        for table in (table_of(HALF), table_of(LESS), of_one(0, 1, (5, 0)), of_one(2, 1, (0, 0), (9, 0), (0, 3)),
                      of_one(0, 2, (0, 2), (GREAT, 3)), of_one(1, 2, (GREAT - 1, 0), (GREAT, 7), (0, 2)),
                      of_one(0, 2, (0, 6), (10 ** 39 + 2, 4))):
            self.assert_pair(table, same_results(table))
        for table in (table_of(DOUBLE), of_one(0, 2, (0, 2), (1, 2)), of_one(0, 2, (0, 4), (GREAT, 6)), of_one(1, 1, (7, 0), (8, 1)),
                      of_one(0, 1, (GREAT, GREAT)), of_one(3, 1, (5, 0), (3, 0), (1, 0), (6, 1))):
            self.assertIsNone(same_results(table))

    def test_several_results(self):
        # Two lines that grow unlike meet at most once.
        row = (((0, (3,)), (0, (1,))), ((0, (1,)), (0, (1,))))
        self.assertEqual(same_results(Table((0,), (2,), row)), ((0,), (1,)))
        row = (((0, (3,)), (40, (1,))), ((10 ** 39, (1,)), (20, (2,))))
        self.assertEqual(same_results(Table((0,), (2,), row)), ((4 * 10 ** 38 + 25,), (8 * 10 ** 38 + 8,)))
        row = (((0, (3,)), (40, (1,))), ((10 ** 39 + 1, (1,)), (20, (2,))))
        self.assertIsNone(same_results(Table((0,), (2,), row)))
        row = (((0, (3,)), (20, (1,))), ((0, (1,)), (0, (1,))))
        self.assertEqual(same_results(Table((0,), (2,), row)), ((2 * 10,), (2 * 30 + 1,)))
        row = (((1, (3,)), (20, (1,))), ((0, (1,)), (0, (1,))))
        self.assertIsNone(same_results(Table((0,), (2,), row)))
        # Parallel: each equation tells the same, or not.
        row = (((0, (2,)), (0, (4,))), ((6, (2,)), (12, (4,))))
        self.assertEqual(value(Table((0,), (2,), row), (6,)), (6, 12))
        self.assert_pair(Table((0,), (2,), row), same_results(Table((0,), (2,), row)))
        row = (((0, (2,)), (0, (4,))), ((6, (2,)), (13, (4,))))
        self.assertIsNone(same_results(Table((0,), (2,), row)))
        # One result alone grows in each.
        row = (((0, (2,)), (7, (0,))), ((6, (0,)), (1, (3,))))
        self.assertEqual(same_results(Table((0,), (2,), row)), ((5,), (6,)))
        row = (((0, (2,)), (8, (0,))), ((6, (0,)), (1, (3,))))
        self.assertIsNone(same_results(Table((0,), (2,), row)))

    def test_great_tables(self):
        rows = tuple(((k, (1000,)),) for k in range(1000))
        self.assertIsNone(same_results(Table((0,), (1000,), rows)))
        rows = rows[:999] + (((500, (1000,)),),)
        self.assert_pair(Table((0,), (1000,), rows), same_results(Table((0,), (1000,), rows)))
        rows = tuple(((k, (0,)),) for k in range(500)) + tuple(((500 + k, (500,)),) for k in range(500))
        self.assertIsNone(same_results(Table((500,), (500,), rows)))

    def test_not_one(self):
        for table in NOT_ONE:
            with self.assertRaises(NotOne):
                same_results(table)


class TestTurnedAbout(unittest.TestCase):
    def assert_turned(self, table, some=200):
        found = turned_about(table)
        self.assertTrue(is_least(found) and is_right(found))
        self.assertEqual((len(found.bounds), len(found.rows[0])), (1, 2))
        told = {value(table, (number,))[0]: number for number in range(10 * some)}
        for number in range(some):
            self.assertEqual(value(found, (number,)), (1, told[number]) if number in told else (0, 0), (table.rows, number))
        for number in (GREAT, GREAT - 1, GREAT - 2, 10 ** 39):
            self.assertEqual(value(found, value(table, (number,))), (1, number))
        return found

    def test_drawn_tables(self):
        chance = random.Random(82)
        turned = 0
        for _ in range(1500):
            table = drawn_table(chance, 1, 1, most=4, base=chance.choice((3, 10, 30, 100)), steps=chance.choice(STEPS))
            if same_results(table) is not None:
                with self.assertRaises(NotUnlike):
                    turned_about(table)
            else:
                turned += 1
                self.assert_turned(table, 60)
        self.assertGreater(turned, 300)

    def test_known_by_hand(self):
        one_more = of_one(0, 1, (1, 1))
        self.assertEqual(self.assert_turned(one_more), Table((1,), (1,), (((0, (0,)), (0, (0,))), ((1, (0,)), (0, (1,))))))
        self.assertEqual(self.assert_turned(of_one(0, 1, (0, 1))), Table((0,), (1,), (((1, (0,)), (0, (1,))),)))
        self.assertEqual(self.assert_turned(table_of(DOUBLE)), Table((0,), (2,), (((1, (0,)), (0, (1,))), ((0, (0,)), (0, (0,))))))
        # Odd and even numbers change their places: this one turned about is itself.
        changed = of_one(0, 2, (1, 2), (0, 2))
        self.assertEqual(self.assert_turned(changed), Table((0,), (2,), (((1, (0,)), (1, (2,))), ((1, (0,)), (0, (2,))))))
        self.assertEqual(self.assert_turned(of_one(2, 1, (1, 0), (0, 0), (2, 1))), Table((2,), (1,), (
            ((1, (0,)), (1, (0,))), ((1, (0,)), (0, (0,))), ((1, (0,)), (2, (1,))))))
        # A small number's result between those of great ones.
        self.assertEqual(self.assert_turned(of_one(1, 1, (7, 0), (0, 2))), Table((8,), (2,), (
            ((1, (0,)), (1, (0,))), ((0, (0,)), (0, (0,))), ((1, (0,)), (2, (0,))), ((0, (0,)), (0, (0,))), ((1, (0,)), (3, (0,))),
            ((0, (0,)), (0, (0,))), ((1, (0,)), (4, (0,))), ((1, (0,)), (0, (0,))), ((1, (0,)), (5, (1,))), ((0, (0,)), (0, (0,))))))

    def test_stretched_tables_turn_to_the_same(self):
        for table in (of_one(0, 1, (1, 1)), of_one(0, 2, (1, 2), (0, 2)), of_one(2, 1, (1, 0), (0, 0), (2, 1)), of_one(0, 2, (0, 3), (1, 3))):
            found = turned_about(table)
            for bound, factor in ((0, 3), (4, 1), (7, 5)):
                further = stretched(table, (table.bounds[0] + bound,), (table.measures[0] * factor,))
                self.assertEqual(turned_about(further), found)

    def test_too_many(self):
        # Behind a first result of so many come all greater numbers.
        self.assertEqual(len(turned_about(of_one(0, 1, (999, 1))).rows), 1000)
        self.assertEqual(len(turned_about(of_one(0, 1, (0, 1000))).rows), 1000)
        self.assertEqual(len(turned_about(of_one(1, 1, (997, 0), (0, 2))).rows), 1000)
        # The bound and the measure together: 500 cells of rests, and numbers up to 499 that are none.
        self.assertEqual(len(turned_about(of_one(0, 1, (999, 500))).rows), 1000)
        for table in (of_one(0, 1, (1000, 1)), of_one(0, 1, (0, 1001)), of_one(1, 1, (999, 0), (0, 2)), of_one(0, 1, (1000, 500)),
                      of_one(0, 1, (GREAT, 1)), of_one(1, 1, (GREAT, 0), (0, 2)), of_one(0, 2, (0, 4), (GREAT, 6)),
                      of_one(1, 2, (GREAT, 0), (0, 1000), (1, 1000))):
            with self.assertRaises(TooMany) as caught:
                turned_about(table)
            self.assertEqual(caught.exception.most, 1000)

    def test_great_bounds_that_need_not_be(self):
        """A base far off whose earlier numbers are results of small inputs breaks nothing."""
        rows = tuple(((2 * k, (0,)),) for k in range(900)) + (((1800, (2,)),),)
        self.assertEqual(turned_about(Table((900,), (1,), rows)), turned_about(table_of(DOUBLE)))
        rows = tuple(((3 * k, (900,)),) for k in range(300))
        self.assertEqual(turned_about(Table((0,), (300,), rows)), Table((0,), (3,), (
            ((1, (0,)), (0, (1,))), ((0, (0,)), (0, (0,))), ((0, (0,)), (0, (0,))))))

    def test_not_one_then_not_unlike(self):
        for table in NOT_ONE + (Table((0,), (1,), (((0, (1,)), (0, (1,))),)), Table((0,), (1,), (((0, (0,)), (0, (0,))),))):
            with self.assertRaises(NotOne):
                turned_about(table)
        for table in (table_of(HALF), of_one(0, 1, (5, 0)), of_one(0, 2, (0, 2), (GREAT, 3)), of_one(1, 1, (GREAT, 0), (0, 1))):
            with self.assertRaises(NotUnlike):
                turned_about(table)


if __name__ == "__main__":
    unittest.main()
