"""8.1 and 8.2: tables from tables."""

import random
import unittest

from drawn import DOUBLE, HALF, SUM, drawn_table, far_inputs, inputs, is_right
from flatrounds.building import behind, beside, chosen, lessened, picked, quotient, summed
from flatrounds.errors import NoIndex, NoIndexes, NoNumber, NoNumbers, OtherShape, TooMany
from flatrounds.tables import Table, is_least, least, stretched, table_of_any, value
from flatrounds.tabling import table_of
from oddthings import LESS, nested, odd_things

GREAT = 10 ** 40 - 1
IDENTITY = Table((0,), (1,), (((0, (1,)),),))
NONE = Table((), (), (((4, ()), (5, ())),))
NO_INDEXES = (-1, True, False, None, "0", b"0", (0,), [0], {}, LESS, nested(tuple, 40), GREAT, -GREAT, range(1))


def steady(bounds, measures, base=0):
    """A table of one result that grows nowhere."""
    many = 1
    for bound, measure in zip(bounds, measures):
        many *= bound + measure
    return Table(bounds, measures, tuple(((base, (0,) * len(bounds)),) for _ in range(many)))


def rests(*measures):
    """A table whose result is 1 where all numbers have the rest 0 by the measures."""
    table = steady((0,) * len(measures), measures)
    rows = (((1, (0,) * len(measures)),),) + table.rows[1:]
    return Table(table.bounds, table.measures, rows)


def late(bound):
    """A table whose result is 0 below the bound, and 1 from it on."""
    return Table((bound,), (1,), (((0, (0,)),),) * bound + (((1, (0,)),),))


class BuildingCase(unittest.TestCase):
    def assert_values(self, table, many, function, chance, most=None):
        self.assertTrue(is_least(table) and is_right(table))
        self.assertEqual(len(table.bounds), many)
        for entered in inputs(many, most or (60 if many < 2 else 13)) + far_inputs(chance, many, 8):
            self.assertEqual(value(table, entered), function(entered), entered)

    def assert_too_many(self, call, most=1000):
        with self.assertRaises(TooMany) as caught:
            call()
        self.assertEqual(caught.exception.most, most)


class TestBesideAndPicked(BuildingCase):
    def test_beside(self):
        chance = random.Random(91)
        for _ in range(200):
            many = chance.randint(0, 2)
            one, other = drawn_table(chance, many), drawn_table(chance, many)
            self.assert_values(beside(one, other), many, lambda entered: value(one, entered) + value(other, entered), chance)

    def test_beside_many_cells(self):
        self.assertEqual(len(beside(rests(25), rests(40)).rows), 200)
        self.assertEqual(len(beside(rests(8), rests(125)).rows), 1000)
        self.assertEqual(len(beside(late(999), IDENTITY).rows), 1000)
        self.assertEqual(len(beside(late(990), rests(10)).rows), 1000)
        self.assertEqual(len(beside(rests(25, 1), rests(1, 40)).rows), 1000)
        for one, other in ((rests(7), rests(143)), (rests(999), rests(1000)), (late(991), rests(10)), (rests(25, 1), rests(1, 41)),
                           (rests(5, 7), rests(9, 11)), (rests(1000, 1), rests(1, 1000))):
            self.assert_too_many(lambda: beside(one, other))
        # The tables themselves need not be least.
        wide = stretched(IDENTITY, (3,), (997,))
        self.assertEqual(beside(wide, stretched(IDENTITY, (0,), (1000,))), Table((0,), (1,), (((0, (1,)), (0, (1,))),)))

    def test_beside_other_shape_then_too_many(self):
        twelve = Table((0,), (1,), (((0, (0,)),) * 12,))
        six, seven = Table((0,), (999,), (((0, (1,)),) * 6,) * 999), Table((0,), (1000,), (((0, (1,)),) * 7,) * 1000)
        for one, other in ((NONE, IDENTITY), (IDENTITY, NONE), (IDENTITY, rests(2, 2)), (rests(2, 2), twelve), (twelve, NONE)):
            with self.assertRaises(OtherShape):
                beside(one, other)
        for one, other in ((twelve, IDENTITY), (IDENTITY, twelve), (twelve, twelve), (six, seven), (seven, six)):
            self.assert_too_many(lambda: beside(one, other), 12)
        self.assertEqual(len(beside(six, six).rows[0]), 12)
        many = table_of_any((0,), (1,), (((0, (0,)),) * 13,))
        self.assert_too_many(lambda: beside(many, IDENTITY), 12)

    def test_picked(self):
        chance = random.Random(92)
        for _ in range(200):
            table = drawn_table(chance)
            many, width = len(table.bounds), len(table.rows[0])
            lot = tuple(chance.randrange(width) for _ in range(chance.randint(1, 12)))
            self.assert_values(picked(table, lot), many, lambda entered: tuple(value(table, entered)[at] for at in lot), chance)
        self.assertEqual(picked(NONE, (1, 0, 1)), Table((), (), (((5, ()), (4, ()), (5, ())),)))
        both = beside(rests(8), rests(125))
        self.assertEqual((picked(both, (0,)), picked(both, (1,))), (rests(8), rests(125)))

    def test_no_indexes(self):
        for lot in ((), (0,) * 13, (0, 2), (2,), (-1,), (True,), (False,), (0, None), ("0",), [0], 0, None, "0", {}, {0: 0},
                    ((0,),), LESS, (LESS,), nested(tuple, 40), (GREAT,), range(1), b"\x00"):
            with self.subTest(lot=repr(lot)), self.assertRaises(NoIndexes):
                picked(NONE, lot)
        for thing in odd_things():
            for lot in (thing, (0, thing)):
                if lot == (0, 0, 0):
                    continue
                with self.subTest(lot=repr(lot)), self.assertRaises(NoIndexes):
                    picked(NONE, lot)


class TestBehind(BuildingCase):
    def test_drawn_tables(self):
        chance = random.Random(93)
        for _ in range(250):
            width = chance.randint(1, 2)
            table = drawn_table(chance, results=width, cells=30)
            other = drawn_table(chance, width, cells=12)
            self.assert_values(behind(table, other), len(table.bounds), lambda entered: value(other, value(table, entered)), chance)

    def test_known_by_hand(self):
        half, less, double, plus = (table_of(program) for program in (HALF, LESS, DOUBLE, SUM))
        self.assertEqual(behind(half, double), Table((0,), (2,), (((0, (2,)),), ((0, (2,)),))))
        self.assertEqual(behind(double, half), IDENTITY)
        self.assertEqual(behind(half, less), Table((2,), (2,), (((0, (0,)),), ((0, (0,)),), ((0, (1,)),), ((0, (1,)),))))
        self.assertEqual(behind(beside(half, half), plus), behind(half, double))
        self.assertEqual(behind(NONE, plus), Table((), (), (((9, ()),),)))
        self.assertEqual(behind(plus, rests(3)), Table((0, 0), (3, 3), tuple(
            ((1 if (k + k // 3) % 3 == 0 else 0, (0, 0)),) for k in range(9))))
        far = Table((1,), (1,), (((GREAT, (0,)),), ((GREAT - 3, (GREAT,)),)))
        self.assert_values(behind(far, half), 1, lambda entered: (value(far, entered)[0] // 2,), random.Random(1))

    def test_too_many(self):
        plus = table_of(SUM)
        self.assertEqual(len(behind(plus, late(11)).rows), 144)
        wide = steady((0, 0), (5, 6))
        rows = tuple(((k // 6, (5, 0)), (k % 6, (0, 6))) for k in range(30))
        whole = Table((0, 0), (5, 6), rows)
        # The result is the input itself: of 12 cells only the other's remain.
        self.assertEqual(behind(whole, rests(3, 4)), rests(3, 4))
        self.assertEqual(behind(picked(wide, (0, 0)), rests(3, 4)), steady((0, 0), (1, 1), 1))
        rows = tuple(((k * k, (1, 1)), (k, (0, 0))) for k in range(30))
        mixed = Table((0, 0), (5, 6), rows)
        self.assertEqual(behind(mixed, rests(5, 1)).measures, (25, 30))
        for other in (rests(7, 1), rests(11, 1), rests(12, 1), rests(6, 2)):
            self.assert_too_many(lambda: behind(mixed, other))

    def test_other_shape(self):
        for table, other in ((IDENTITY, rests(2, 2)), (NONE, IDENTITY), (IDENTITY, NONE), (picked(IDENTITY, (0, 0, 0)), rests(2, 2)),
                             (picked(IDENTITY, (0, 0)), IDENTITY)):
            with self.assertRaises(OtherShape):
                behind(table, other)


class TestOfOneResult(BuildingCase):
    def test_summed(self):
        chance = random.Random(94)
        for _ in range(200):
            table = drawn_table(chance)
            factors = tuple(chance.choice((0, 0, 1, 2, 5, GREAT)) for _ in table.rows[0])
            self.assert_values(summed(table, factors), len(table.bounds), lambda entered: (
                sum(factor * number for factor, number in zip(factors, value(table, entered))),), chance)
        self.assertEqual(summed(NONE, (2, 3)), Table((), (), (((23, ()),),)))
        # The two halves together are the number.
        halves = Table((0,), (2,), (((0, (1,)), (0, (1,))), ((0, (1,)), (1, (1,)))))
        self.assertEqual(summed(halves, (1, 1)), IDENTITY)

    def test_no_numbers(self):
        for factors in ((), (1,), (1, 2, 3), [1, 2], (1, True), (1, -1), (None, 1), (1, "1"), None, 1, {}, {0: 1, 1: 2}, LESS,
                        (LESS, 1), "ab", nested(tuple, 40), range(2)):
            with self.subTest(factors=repr(factors)), self.assertRaises(NoNumbers):
                summed(NONE, factors)
        for thing in odd_things():
            for factors in (thing, (thing, -1)):
                with self.subTest(factors=repr(factors)), self.assertRaises(NoNumbers):
                    summed(NONE, factors)

    def test_lessened(self):
        chance = random.Random(95)
        for _ in range(300):
            table = drawn_table(chance, cells=30)
            at = chance.randrange(len(table.rows[0]))
            number = chance.choice((0, 1, 2, 3, 5, 8))
            self.assert_values(lessened(table, at, number), len(table.bounds), lambda entered: (
                max(0, value(table, entered)[at] - number),), chance)

    def test_lessened_by_hand(self):
        self.assertEqual(lessened(IDENTITY, 0, 1), table_of(LESS))
        self.assertEqual(lessened(NONE, 1, 3), Table((), (), (((2, ()),),)))
        self.assertEqual(lessened(NONE, 1, GREAT), Table((), (), (((0, ()),),)))
        self.assertEqual(lessened(steady((3,), (2,), GREAT), 0, GREAT - 1), Table((0,), (1,), (((1, (0,)),),)))
        steep = Table((0,), (2,), (((5, (GREAT,)),), ((GREAT, (1,)),)))
        self.assertEqual(lessened(steep, 0, 10 ** 39), Table((1,), (2,), (
            ((0, (0,)),), ((GREAT - 10 ** 39, (1,)),), ((5 + GREAT - 10 ** 39, (GREAT,)),))))

    def test_lessened_too_many(self):
        self.assertEqual(len(lessened(IDENTITY, 0, 999).rows), 1000)
        plus = table_of(SUM)
        self.assertEqual(len(lessened(plus, 0, 30).rows), 961)
        self.assertEqual(len(lessened(Table((0, 0), (1, 1), (((0, (1, 0)),),)), 0, 999).rows), 1000)
        self.assertEqual(len(lessened(Table((0, 0), (1, 1), (((0, (0, 1)),),)), 0, 999).rows), 1000)
        thirds = Table((0,), (3,), (((0, (1,)),),) * 3)
        # The last number with a result of 0 is 3 n + 2; 3 n is enough as a bound.
        self.assertEqual(len(lessened(thirds, 0, 332).rows), 999)
        for table, number in ((IDENTITY, 1000), (IDENTITY, GREAT), (plus, 31), (plus, GREAT), (thirds, 333),
                              (Table((0,), (1,), (((0, (10 ** 36,)),),)), GREAT)):
            self.assert_too_many(lambda: lessened(table, 0, number))
        # Rests that were told apart fall together, so that few cells are left.
        rows = tuple(((k, (0,)),) for k in range(30))
        self.assertEqual(lessened(Table((0,), (30,), rows), 0, 29), Table((0,), (1,), (((0, (0,)),),)))
        self.assertEqual(lessened(Table((29,), (1,), rows), 0, 28), Table((29,), (1,), (((0, (0,)),),) * 29 + (((1, (0,)),),)))

    def test_chosen(self):
        chance = random.Random(96)
        for _ in range(400):
            table = drawn_table(chance, base=chance.choice((0, 1, 3)), cells=30)
            width = len(table.rows[0])
            at, one, other = chance.randrange(width), chance.randrange(width), chance.randrange(width)

            def choice(entered):
                row = value(table, entered)
                return (row[one] if row[at] == 0 else row[other],)

            self.assert_values(chosen(table, at, one, other), len(table.bounds), choice, chance)

    def test_chosen_by_hand(self):
        table = Table((0,), (1,), (((0, (1,)), (GREAT, (0,)), (7, (2,))),))
        self.assertEqual(chosen(table, 0, 1, 2), Table((1,), (1,), (((GREAT, (0,)),), ((9, (2,)),))))
        self.assertEqual(chosen(table, 1, 0, 2), Table((0,), (1,), (((7, (2,)),),)))
        self.assertEqual(chosen(table, 0, 0, 0), IDENTITY)
        plus = Table((0, 0), (1, 1), (((0, (1, 1)), (5, (0, 0)), (6, (0, 0))),))
        self.assertEqual(chosen(plus, 0, 1, 2), Table((1, 1), (1, 1), (
            ((5, (0, 0)),), ((6, (0, 0)),), ((6, (0, 0)),), ((6, (0, 0)),))))
        self.assertEqual(chosen(NONE, 0, 0, 1), Table((), (), (((5, ()),),)))

    def test_quotient(self):
        chance = random.Random(97)
        for _ in range(150):
            table = drawn_table(chance, most=2, steps=chance.choice(((0, 1, 2, 3), (0, 4, 6), (0, 12))), cells=16)
            at = chance.randrange(len(table.rows[0]))
            number = chance.randint(1, 5 if len(table.bounds) == 2 else 12)
            self.assert_values(quotient(table, at, number), len(table.bounds), lambda entered: divmod(
                value(table, entered)[at], number), chance)

    def test_quotient_by_hand(self):
        for number in range(1, 13):
            self.assertEqual(quotient(IDENTITY, 0, number), Table((0,), (number,), tuple(
                ((0, (1,)), (k, (0,))) for k in range(number))))
        self.assertEqual(quotient(NONE, 1, 2), Table((), (), (((2, ()), (1, ())),)))
        self.assertEqual(quotient(table_of(DOUBLE), 0, 2), Table((0,), (1,), (((0, (1,)), (0, (0,))),)))
        self.assertEqual(quotient(steady((0,), (1,), GREAT), 0, 10), Table((0,), (1,), (((10 ** 39 - 1, (0,)), (9, (0,))),)))
        self.assertEqual(quotient(table_of(DOUBLE), 0, 12).measures, (6,))

    def test_quotient_too_many(self):
        rows = tuple(((k * k, (1, 1)),) for k in range(30))
        table = Table((0, 0), (5, 6), rows)
        self.assertEqual(len(quotient(table, 0, 5).rows), 25 * 30)
        for number in (7, 11, 12):
            self.assert_too_many(lambda: quotient(table, 0, number))
        # Steps that the number divides part nothing further.
        rows = tuple(((k * k, (11, 22)),) for k in range(30))
        self.assertEqual(len(quotient(Table((0, 0), (5, 6), rows), 0, 11).rows), 30)


class TestWrongArguments(BuildingCase):
    def test_no_index(self):
        for at in NO_INDEXES + (2,):
            for call in (lambda: lessened(NONE, at, 1), lambda: lessened(NONE, at, None), lambda: quotient(NONE, at, 1),
                         lambda: quotient(NONE, at, 0), lambda: chosen(NONE, at, 0, 0), lambda: chosen(NONE, 0, at, 0),
                         lambda: chosen(NONE, 0, 0, at), lambda: chosen(NONE, at, at, at)):
                with self.subTest(at=repr(at)), self.assertRaises(NoIndex):
                    call()
        for thing in odd_things():
            for call in (lambda: lessened(NONE, thing, thing), lambda: quotient(NONE, thing, thing), lambda: chosen(NONE, 0, thing, 0),
                         lambda: chosen(NONE, thing, 0, 0), lambda: chosen(NONE, 0, 0, thing)):
                with self.subTest(thing=repr(thing)), self.assertRaises(NoIndex):
                    call()

    def test_no_number(self):
        for number in (-1, -GREAT, True, False, None, "1", (1,), [1], {}, LESS, nested(list, 40)):
            for ask in (lessened, quotient):
                with self.subTest(number=repr(number)), self.assertRaises(NoNumber):
                    ask(NONE, 0, number)
        for number in (0, 13, GREAT):
            with self.assertRaises(NoNumber):
                quotient(NONE, 0, number)
        for thing in odd_things():
            with self.subTest(thing=repr(thing)), self.assertRaises(NoNumber):
                quotient(NONE, 0, thing)
            if thing.__class__ is not int or thing < 0:
                with self.subTest(thing=repr(thing)), self.assertRaises(NoNumber):
                    lessened(NONE, 0, thing)

    def test_wrong_arguments_come_ahead_of_too_many(self):
        with self.assertRaises(NoIndex):
            lessened(IDENTITY, 1, GREAT)
        with self.assertRaises(OtherShape):
            beside(rests(999), rests(2, 2))

    def test_nothing_is_changed(self):
        table = Table((1,), (2,), (((0, (0,)), (1, (0,))), ((0, (3,)), (2, (0,))), ((9, (0,)), (5, (1,)))))
        kept = (table.bounds, table.measures, table.rows)
        for call in (lambda: beside(table, table), lambda: behind(table, rests(2, 2)), lambda: picked(table, (1, 1)),
                     lambda: summed(table, (2, 3)), lambda: lessened(table, 0, 4), lambda: chosen(table, 0, 1, 0),
                     lambda: quotient(table, 1, 5)):
            self.assertEqual(call(), call())
            self.assertEqual((table.bounds, table.measures, table.rows), kept)


if __name__ == "__main__":
    unittest.main()
