"""7.1 and 7.2: inputs of a result, the greatest, the lowest and missed results, and what falls or is greater."""

import math
import random
import unittest

from drawn import HALF, by_least, cells_by_hand, drawn_table, inputs
from flatrounds.asking import falls, greatest, least_input, lowest, many_inputs, missed, more_input
from flatrounds.errors import NoIndex, NoNumber
from flatrounds.tables import Table, value
from flatrounds.tabling import table_of
from oddthings import LESS, nested, odd_things

GREAT = 10 ** 40 - 1
NONE = Table((), (), (((4, ()), (5, ())),))
ONE = Table((1,), (2,), (((7, (0,)), (1, (0,))), ((0, (3,)), (2, (0,))), ((9, (0,)), (5, (1,)))))
PLANE = Table((0, 0), (1, 1), (((3, (4, 6)), (0, (1, 1)), (9, (0, 2))),))
NO_INDEXES = (-1, True, False, None, "0", b"0", (0,), [0], {}, LESS, nested(tuple, 40), GREAT, -GREAT, range(1))
NO_NUMBERS = (-1, -GREAT, True, False, None, "0", (0,), [0], {}, LESS, nested(list, 40))


def at_row(table, at):
    return [row[at] for row in table.rows]


def plane(one, other, base=0):
    """The table of base + one x + other y."""
    return Table((0, 0), (1, 1), (((base, (one, other)),),))


class TestInputsOfAResult(unittest.TestCase):
    def test_against_a_search(self):
        """With measures of 3 and steps from 1 on, numbers below 10 come of inputs below 33, but for those without end."""
        chance = random.Random(61)
        for _ in range(250):
            table = drawn_table(chance)
            at = chance.randrange(len(table.rows[0]))
            found = {}
            for entered in inputs(len(table.bounds), 39):
                found.setdefault(value(table, entered)[at], []).append(entered)
            for number in range(10):
                some = found.get(number, [])
                self.assertEqual(least_input(table, at, number), min(some, key=by_least, default=None), (table.rows, number))
                endless = any(max(entered) >= 36 for entered in some if entered)
                self.assertEqual(many_inputs(table, at, number), None if endless else len(some))

    def test_known_by_hand(self):
        half = table_of(HALF)
        self.assertEqual((least_input(half, 0, 4), many_inputs(half, 0, 4)), ((8,), 2))
        self.assertEqual((least_input(half, 0, GREAT), many_inputs(half, 0, GREAT)), ((2 * GREAT,), 2))
        self.assertEqual([(least_input(NONE, at, number), many_inputs(NONE, at, number)) for at, number in ((0, 4), (0, 5), (1, 5))],
                         [((), 1), (None, 0), ((), 1)])
        self.assertEqual((least_input(ONE, 0, 9), many_inputs(ONE, 0, 9)), ((2,), None))
        self.assertEqual((least_input(ONE, 0, 7), many_inputs(ONE, 0, 7)), ((0,), 1))
        self.assertEqual((least_input(ONE, 1, 10 ** 39), many_inputs(ONE, 1, 10 ** 39)), ((2 + 2 * (10 ** 39 - 5),), 1))
        self.assertEqual((least_input(ONE, 1, 2), many_inputs(ONE, 1, 2)), ((1,), None))
        self.assertEqual((least_input(ONE, 1, 1), many_inputs(ONE, 1, 0)), ((0,), 0))
        self.assertEqual((least_input(PLANE, 2, 9), many_inputs(PLANE, 2, 9)), ((0, 0), None))
        self.assertEqual((least_input(PLANE, 2, 10), many_inputs(PLANE, 2, 10)), (None, 0))
        # The least tuple of the least sum.
        self.assertEqual((least_input(PLANE, 1, 5), many_inputs(PLANE, 1, 5)), ((0, 5), 6))
        self.assertEqual((least_input(PLANE, 1, GREAT), many_inputs(PLANE, 1, GREAT)), ((0, GREAT), GREAT + 1))

    def test_two_great_steps(self):
        """One x + other y, with figures of 40: known solutions, and none between."""
        for one, other in ((3, 5), (5, 3), (10 ** 20 + 1, 10 ** 20), (10 ** 19, 10 ** 20 + 39), (6, 10), (7, 7), (1, GREAT)):
            common = math.gcd(one, other)
            table = plane(one, other, 2)
            for x, y in ((0, 0), (1, 1), (10 ** 18 + 3, 7), (5, 10 ** 18), (123456789, 987654321)):
                number = 2 + one * x + other * y
                found = least_input(table, 0, number)
                self.assertEqual(value(table, found), (number,))
                self.assertLessEqual(by_least(found), by_least((x, y)))
                # Solutions are apart by as much; the least has as many of the greater step as can be.
                apart = (other // common, one // common)
                if one > other:
                    self.assertLess(found[1], apart[1])
                if other >= one:
                    self.assertLess(found[0], apart[0])
                fewest = x % apart[0]
                most = x + y // apart[1] * apart[0]
                self.assertEqual(many_inputs(table, 0, number), (most - fewest) // apart[0] + 1)
            if common > 1:
                self.assertEqual((least_input(table, 0, 2 * common + 1), many_inputs(table, 0, 2 * common + 1)), (None, 0))
            self.assertEqual((least_input(table, 0, 1), many_inputs(table, 0, 1)), (None, 0))
        self.assertEqual((least_input(plane(3, 5), 0, 7), many_inputs(plane(3, 5), 0, 7)), (None, 0))
        self.assertEqual((least_input(plane(3, 5), 0, 8), many_inputs(plane(3, 5), 0, 8)), ((1, 1), 1))
        self.assertEqual((least_input(plane(2, 2), 0, 8), many_inputs(plane(2, 2), 0, 8)), ((0, 4), 5))

    def test_measures_weigh(self):
        # Steps of 2 and 3, by measures of 5 and 1 and by 1 and 5: the cheaper number is raised.
        rows = tuple(((0, (2, 3)),) if k == 0 else ((1000, (2, 3)),) for k in range(5))
        self.assertEqual(least_input(Table((0, 0), (5, 1), rows), 0, 60), (0, 20))
        self.assertEqual(least_input(Table((0, 0), (1, 5), rows), 0, 60), (30, 0))
        self.assertEqual(least_input(Table((0, 0), (1, 5), rows), 0, 61), (29, 5))
        # Both weigh the same: of all ways with one sum, the least tuple.
        rows = tuple(((0, (2, 3)),) if k == 0 else ((1000, (2, 3)),) for k in range(6))
        self.assertEqual(least_input(Table((0, 0), (2, 3), rows), 0, 12), (0, 12))

    def test_greatest_and_lowest(self):
        chance = random.Random(62)
        for _ in range(300):
            table = drawn_table(chance, steps=chance.choice(((0,), (0, 0, 0, 0, 1), (0, 1, 2))))
            some = inputs(len(table.bounds), 12)
            for at in range(len(table.rows[0])):
                told = [(value(table, entered)[at], entered) for entered in some]
                low = min(number for number, _ in told)
                self.assertEqual(lowest(table, at), (low, min((entered for number, entered in told if number == low), key=by_least)))
                if any(step for _, steps in at_row(table, at) for step in steps):
                    self.assertIsNone(greatest(table, at))
                else:
                    high = max(number for number, _ in told)
                    self.assertEqual(greatest(table, at),
                                     (high, min((entered for number, entered in told if number == high), key=by_least)))

    def test_greatest_and_lowest_by_hand(self):
        self.assertEqual((greatest(table_of(HALF), 0), lowest(table_of(LESS), 0)), (None, (0, (0,))))
        self.assertEqual((greatest(NONE, 1), lowest(NONE, 0)), ((5, ()), (4, ())))
        rows = tuple(((GREAT if cell in ((0, 2), (1, 1), (2, 0)) else 1, (0, 0)),) for cell in cells_by_hand((2, 2), (1, 1)))
        table = Table((2, 2), (1, 1), rows)
        self.assertEqual((greatest(table, 0), lowest(table, 0)), ((GREAT, (0, 2)), (1, (0, 0))))

    def test_missed(self):
        chance = random.Random(63)
        for _ in range(250):
            table = drawn_table(chance, base=chance.choice((3, 9)))
            at = chance.randrange(len(table.rows[0]))
            many = len(table.bounds)
            hit = {value(table, entered)[at] for entered in inputs(many, 80 if many < 2 else 40)}
            for most in (1, 2, 5, 9, 10):
                self.assertEqual(missed(table, at, most), next((number for number in range(most) if number not in hit), None))

    def test_missed_by_hand(self):
        self.assertIsNone(missed(table_of(HALF), 0, 10000))
        self.assertEqual((missed(NONE, 0, 10000), missed(NONE, 0, 1)), (0, 0))
        # 3 x + 5 y misses 1, 2, 4 and 7.
        found = Table((), (), (((0, ()),),))
        self.assertIsNone(missed(found, 0, 1))
        self.assertEqual(missed(found, 0, 2), 1)
        rows = ((((0, (3, 5)),),) + (((1, (0, 0)),), ((2, (0, 0)),), ((4, (0, 0)),)))
        self.assertEqual(missed(Table((0, 0), (1, 4), rows), 0, 10000), 7)
        self.assertIsNone(missed(Table((0, 0), (1, 4), rows), 0, 7))
        self.assertEqual(missed(plane(97, 103, 0), 0, 10000), 1)
        # All but the last number below 10000: bases 0 to 9998, each 20 apart.
        rows = tuple(((k, (0,)),) for k in range(499)) + (((499, (1,)),),)
        self.assertIsNone(missed(Table((499,), (1,), rows), 0, 10000))
        rows = tuple(((k, (0,)),) for k in range(499)) + (((500, (1,)),),)
        self.assertEqual(missed(Table((499,), (1,), rows), 0, 10000), 499)
        rows = tuple(((k, (500,)),) for k in range(500))
        self.assertIsNone(missed(Table((0,), (500,), rows), 0, 10000))
        rows = tuple(((k if k < 499 else 999, (500,)),) for k in range(500))
        self.assertEqual(missed(Table((0,), (500,), rows), 0, 10000), 499)
        self.assertEqual(missed(plane(GREAT, GREAT, 0), 0, 10000), 1)
        self.assertEqual(missed(plane(1, 0, GREAT), 0, 10000), 0)
        rows = tuple(((0, (4999, 5000)),) if k == 0 else ((k, (0, 0)),) for k in range(900))
        self.assertEqual(missed(Table((0, 0), (1, 900), rows), 0, 10000), 900)


class TestMoreAndFalling(unittest.TestCase):
    def test_against_a_search(self):
        chance = random.Random(64)
        none = 0
        for _ in range(400):
            table = drawn_table(chance, base=chance.choice((0, 3)), steps=chance.choice(((0, 1), (0, 1, 2, 3), (2,))))
            width, many = len(table.rows[0]), len(table.bounds)
            some = inputs(many, 30 if many < 2 else 14)
            one, other = chance.randrange(width), chance.randrange(width)
            found = more_input(table, one, other)
            if found is None:
                none += 1
                self.assertFalse([entered for entered in some if value(table, entered)[one] > value(table, entered)[other]])
            else:
                self.assertGreater(value(table, found)[one], value(table, found)[other])
            self.assertEqual(more_input(table, one, other), found)
            for k in range(many):
                found = falls(table, one, k)
                if found is None:
                    none += 1
                    self.assertFalse([entered for entered in some if self.falls_at(table, one, k, entered)])
                else:
                    self.assertTrue(self.falls_at(table, one, k, found))
        self.assertGreater(none, 50)

    def falls_at(self, table, at, k, entered):
        further = entered[:k] + (entered[k] + 1,) + entered[k + 1:]
        return value(table, entered)[at] > value(table, further)[at]

    def test_far_ones(self):
        late = Table((0,), (1,), (((0, (2,)), (GREAT, (1,))),))
        self.assertGreater(more_input(late, 0, 1)[0], GREAT)
        self.assertIsNone(more_input(Table((0,), (1,), (((0, (1,)), (GREAT, (1,))),)), 0, 1))
        # The even cell grows faster, but begins far below the odd one.
        table = Table((0,), (2,), (((0, (2,)),), ((GREAT, (1,)),)))
        found = falls(table, 0, 0)
        self.assertTrue(self.falls_at(table, 0, 0, found))
        self.assertIsNone(falls(Table((0,), (2,), (((0, (2,)),), ((1, (2,)),))), 0, 0))
        # Falling around from the last great cell to the first one.
        table = Table((0,), (2,), (((0, (1,)),), ((2, (1,)),)))
        self.assertTrue(self.falls_at(table, 0, 0, falls(table, 0, 0)))
        # From the last small cell to the first great one.
        table = Table((1,), (1,), (((1, (0,)),), ((0, (1,)),)))
        self.assertEqual(falls(table, 0, 0), (0,))
        # Along the other number alone.
        table = Table((0, 1), (1, 1), (((9, (5, 0)),), ((0, (2, 3)),)))
        self.assertIsNone(falls(table, 0, 0))
        self.assertTrue(self.falls_at(table, 0, 1, falls(table, 0, 1)))

    def test_no_numbers_given(self):
        self.assertEqual((more_input(NONE, 1, 0), more_input(NONE, 0, 1), more_input(NONE, 0, 0)), ((), None, None))


class TestWrongArguments(unittest.TestCase):
    def test_no_index(self):
        for table, far in ((NONE, 2), (ONE, 2), (PLANE, 3)):
            for at in NO_INDEXES + (far, far + 1):
                for call in (lambda: least_input(table, at, 0), lambda: least_input(table, at, None),
                             lambda: many_inputs(table, at, 0), lambda: many_inputs(table, at, -1),
                             lambda: greatest(table, at), lambda: lowest(table, at), lambda: missed(table, at, 5),
                             lambda: missed(table, at, 0), lambda: more_input(table, at, 0), lambda: more_input(table, 0, at),
                             lambda: more_input(table, at, at), lambda: falls(table, at, 0), lambda: falls(table, at, None)):
                    with self.subTest(at=repr(at)), self.assertRaises(NoIndex):
                        call()
        for table, far in ((NONE, 0), (ONE, 1), (PLANE, 2)):
            for k in NO_INDEXES + (far, far + 1):
                with self.subTest(k=repr(k)), self.assertRaises(NoIndex):
                    falls(table, 0, k)
        for thing in odd_things():
            for call in (lambda: least_input(ONE, thing, thing), lambda: many_inputs(ONE, thing, 0), lambda: greatest(ONE, thing),
                         lambda: lowest(ONE, thing), lambda: missed(ONE, thing, 1), lambda: more_input(ONE, thing, 0),
                         lambda: more_input(ONE, 0, thing), lambda: falls(ONE, thing, 0), lambda: falls(ONE, 0, thing)):
                with self.subTest(thing=repr(thing)), self.assertRaises(NoIndex):
                    call()

    def test_no_number(self):
        for number in NO_NUMBERS:
            for ask in (least_input, many_inputs, missed):
                with self.subTest(number=repr(number)), self.assertRaises(NoNumber):
                    ask(ONE, 1, number)
        for most in (0, 10001, GREAT):
            with self.assertRaises(NoNumber):
                missed(ONE, 1, most)
        for thing in odd_things():
            if thing.__class__ is not int or thing < 0:
                for ask in (least_input, many_inputs, missed):
                    with self.subTest(thing=repr(thing)), self.assertRaises(NoNumber):
                        ask(ONE, 1, thing)


if __name__ == "__main__":
    unittest.main()
