"""12.1: tables that are learned from functions, and functions that are refuted."""

import random
import unittest

from drawn import HALF, drawn_table, far_inputs, inputs, value_by_hand
from flatrounds.errors import BadAnswer, Falling, NoBounds, NoInputs, NoNumber, TooMany
from flatrounds.likeness import probes
from flatrounds.programs import Program
from flatrounds.strangers import learned, refuted
from flatrounds.tables import Table, value
from flatrounds.tabling import table_of
from oddthings import LESS, nested, odd_things, odder_things

GREAT = 10 ** 40 - 1
IDENTITY = Table((0,), (1,), (((0, (1,)),),))


def asked(table, told):
    """A function that gives a table's values, keeps what it is asked, and gives other things where they are told."""
    seen = []

    def function(entered):
        seen.append(entered)
        return told.get(entered, value_by_hand(table, entered))

    return function, seen


class TestLearned(unittest.TestCase):
    def assert_bad(self, error, at, *arguments):
        with self.assertRaises(error) as caught:
            learned(*arguments)
        self.assertEqual(caught.exception.at, at)

    def test_drawn_tables(self):
        chance = random.Random(131)
        for _ in range(250):
            table = drawn_table(chance)
            function, seen = asked(table, {})
            found = learned(function, table.bounds, table.measures, len(table.rows[0]))
            self.assertEqual(found, table)
            self.assertEqual(Table(found.bounds, found.measures, found.rows), found)
            self.assertEqual(set(seen) - set(probes(table.bounds, table.measures)), set())

    def test_known_by_hand(self):
        self.assertEqual(learned(lambda entered: (entered[0] // 2,), (0,), (2,), 1), table_of(HALF))
        self.assertEqual(learned(lambda entered: (max(0, entered[0] - 1),), (1,), (1,), 1), table_of(LESS))
        self.assertEqual(learned(lambda entered: (7, 0), (), (), 2), Table((), (), (((7, ()), (0, ())),)))
        self.assertEqual(learned(lambda entered: (GREAT * GREAT * entered[0],) * 12, (0,), (1,), 12).rows,
                         (((0, (GREAT * GREAT,)),) * 12,))
        # What is told beyond the probes is not asked for, and the table need not be least.
        self.assertEqual(learned(lambda entered: (entered[0] ** 2,), (2,), (2,), 1),
                         Table((2,), (2,), (((0, (0,)),), ((1, (0,)),), ((4, (12,)),), ((9, (16,)),))))
        self.assertEqual(len(learned(lambda entered: (1,), (999,), (1,), 1).rows), 1000)

    def test_bad_answers(self):
        chance = random.Random(132)
        odd = [(), (1,), (1, 2, 3), (1, -1), (1, True), (False, 1), (1, None), (1, "1"), (1, 1.0), (1, (1,)), [1, 2],
               {0: 1, 1: 2}, "12", b"ab", 12, None,
               True, LESS, (LESS, 1), Table, nested(tuple, 40), {1, 2}, 1.5, range(2)]
        for thing in odd + odder_things():
            table = drawn_table(chance, results=2)
            some = probes(table.bounds, table.measures)
            at = chance.choice(some)
            function, _ = asked(table, {at: thing})
            self.assert_bad(BadAnswer, at, function, table.bounds, table.measures, 2)
            first = min(at, chance.choice(some))
            function, _ = asked(table, {at: thing, first: chance.choice(odd)})
            self.assert_bad(BadAnswer, first, function, table.bounds, table.measures, 2)
        for many in range(1, 13):
            self.assert_bad(BadAnswer, (0,), lambda entered: (1,) * (many + 1), (0,), (1,), many)

    def test_falling(self):
        chance = random.Random(133)
        found = 0
        while found < 150:
            table = drawn_table(chance, many=chance.randint(1, 2), results=2)
            beyond = [probe for probe in probes(table.bounds, table.measures)
                      if any(number >= bound + measure for number, bound,
                             measure in zip(probe, table.bounds, table.measures))]
            told = {}
            for probe in chance.sample(beyond, min(len(beyond), 2)):
                cell = tuple(number - measure if number >= bound + measure else number
                             for number, bound, measure in zip(probe, table.bounds, table.measures))
                row = value_by_hand(table, cell)
                if max(row) > 0:
                    at = chance.choice([k for k in range(2) if row[k] > 0])
                    told[probe] = tuple(number - 1 if k == at else GREAT for k, number in enumerate(row))
            if not told:
                continue
            found += 1
            function, _ = asked(table, told)
            self.assert_bad(Falling, min(told), function, table.bounds, table.measures, 2)
            # What is no answer comes first, wherever it is given.
            odd = chance.choice(probes(table.bounds, table.measures))
            function, _ = asked(table, {**told, odd: (1, -1)})
            self.assert_bad(BadAnswer, odd, function, table.bounds, table.measures, 2)
        # Small numbers may fall, and one cell below another.
        self.assertEqual(learned(lambda entered: (max(0, 5 - entered[0]),), (5,), (1,), 1).rows[-1], ((0, (0,)),))
        self.assert_bad(Falling, (5,), lambda entered: (max(0, 5 - entered[0]),), (4,), (1,), 1)
        self.assert_bad(Falling, (0, 1), lambda entered: (9 - entered[1],), (0, 0), (1, 1), 1)
        self.assert_bad(Falling, (0, 2), lambda entered: (9 - entered[0] - entered[1],), (0, 1), (1, 1), 1)
        self.assert_bad(Falling, (1, 0), lambda entered: (9 - entered[0],), (0, 1), (1, 1), 1)
        self.assertEqual(learned(lambda entered: (9,), (0, 0), (1, 1), 1), Table((0, 0), (1, 1), (((9, (0, 0)),),)))

    def test_order_of_errors(self):
        def never_asked(entered):
            raise AssertionError(entered)

        no_bounds = [(bounds, (1,)) for bounds in ((-1,), (True,), (), (0, 0), (0, 0, 0), [0], None, 0, "0", {}, LESS,
                                                   (None,), nested(tuple, 40))]
        no_bounds += [((0,), measures) for measures in ((0,), (-1,), (True,), (), (1, 1), [1], None, 1, "1", {}, LESS,
                                                        nested(list, 40))]
        for bounds, measures in no_bounds + [((0, 0, 0), (1, 1, 1)), ((2000,), (0,))]:
            for many in (1, 0, None):
                with self.subTest(bounds=repr(bounds), measures=repr(measures)), self.assertRaises(NoBounds):
                    learned(never_asked, bounds, measures, many)
        for many in (0, 13, -1, GREAT, True, False, None, "1", (1,), [1], {}, LESS, nested(tuple, 40)):
            for bounds in ((0,), (1000,)):
                with self.subTest(many=repr(many)), self.assertRaises(NoNumber):
                    learned(never_asked, bounds, (1,), many)
        for bounds, measures in (((1000,), (1,)), ((0,), (1001,)), ((10, 30), (22, 2)), ((GREAT, GREAT), (GREAT, GREAT))):
            with self.assertRaises(TooMany) as caught:
                learned(never_asked, bounds, measures, 1)
            self.assertEqual(caught.exception.most, 1000)
        for thing in odd_things():
            if thing != ():
                with self.subTest(thing=repr(thing)), self.assertRaises(NoBounds):
                    learned(never_asked, thing, (), 1)
                with self.subTest(thing=repr(thing)), self.assertRaises(NoBounds):
                    learned(never_asked, (), thing, thing)
            with self.subTest(thing=repr(thing)), self.assertRaises(NoNumber):
                learned(never_asked, (), (), thing)


class TestRefuted(unittest.TestCase):
    def test_drawn_tables(self):
        chance = random.Random(134)
        for _ in range(200):
            table = drawn_table(chance)
            many, width = len(table.bounds), len(table.rows[0])
            some = inputs(many, 4) + far_inputs(chance, many, 5)
            chance.shuffle(some)
            some = list(dict.fromkeys(some))
            function, _ = asked(table, {})
            self.assertIsNone(refuted(table, function, some))
            self.assertIsNone(refuted(table, function, tuple(some)))
            at = chance.randrange(len(some))
            right = value(table, some[at])
            k = chance.randrange(width)
            odd = [right[:k] + (right[k] + 1,) + right[k + 1:], right + (0,), right[:-1], (), None, list(right), LESS, True,
                   (None,) * width, (-1,) * width,
                   (True,) * width, right[:k] + (float(right[k]),) + right[k + 1:], table, set(right), dict.fromkeys(right),
                   nested(tuple, 40)]
            for thing in odd:
                function, _ = asked(table, {some[at]: thing})
                self.assertEqual(refuted(table, function, some), at, thing)
                later = chance.randrange(len(some))
                function, _ = asked(table, {some[at]: thing, some[later]: None})
                self.assertEqual(refuted(table, function, tuple(some)), min(at, later))

    def test_known_by_hand(self):
        self.assertIsNone(refuted(IDENTITY, lambda entered: None, []))
        self.assertIsNone(refuted(IDENTITY, lambda entered: None, ()))
        # A flag is no number, though it is equal to one.
        self.assertEqual(refuted(IDENTITY, lambda entered: (entered[0] > 0,), [(0,), (1,)]), 0)
        self.assertEqual(refuted(IDENTITY, lambda entered: (entered[0] % 100,), [(0,), (99,), (100,), (GREAT,)]), 2)
        self.assertEqual(refuted(IDENTITY, lambda entered: (entered[0] % 10 ** 30,), ((5,), (5,), (10 ** 30,))), 2)
        self.assertEqual(refuted(Table((), (), (((4, ()),),)), lambda entered: (5,), [()]), 0)
        self.assertIsNone(refuted(Table((), (), (((4, ()),),)), lambda entered: (4,), [(), ()]))

    def test_no_inputs(self):
        def never_asked(entered):
            raise AssertionError(entered)

        for some in (None, 0, True, "0", b"0", {}, {(0,): 0}, (0,), [0], [()], [(0,), (0, 0)], [(0,), (-1,)], [(0,), (True,)],
                     [(0,), None], [[0]], ((0,), [0]),
                     ("0",), [LESS], LESS, nested(tuple, 40), nested(list, 40), range(0), iter([(0,)])):
            with self.subTest(some=repr(some)), self.assertRaises(NoInputs):
                refuted(IDENTITY, never_asked, some)
        for thing in odd_things():
            if thing != () and thing != []:
                with self.subTest(thing=repr(thing)), self.assertRaises(NoInputs):
                    refuted(IDENTITY, never_asked, thing)
            with self.subTest(thing=repr(thing)), self.assertRaises(NoInputs):
                refuted(IDENTITY, never_asked, [(0,), thing])

    def test_nothing_is_changed(self):
        some = [(3,), (1,)]
        refuted(IDENTITY, lambda entered: entered, some)
        self.assertEqual(some, [(3,), (1,)])
        program = Program(("x",), ("x",), ())
        self.assertEqual(learned(lambda entered: entered, (0,), (1,), 1), table_of(program))


if __name__ == "__main__":
    unittest.main()
