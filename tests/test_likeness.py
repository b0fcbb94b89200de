"""6.1 and 6.2: likeness of programs and tables, the least input that parts them, and probes."""

import random
import unittest

from drawn import DOUBLE, HALF, SUM, by_least, cells_by_hand, divided, drawn_program, drawn_table, inputs
from flatrounds.errors import NoBounds, OtherShape, TooMany
from flatrounds.likeness import alike, probes, unlike_input, unlike_value
from flatrounds.programs import Program, left_out, places, put_in, renamed
from flatrounds.runs import results
from flatrounds.tables import Table, same, stretched, value
from oddthings import LESS, nested, odd_things

GREAT = 10 ** 40 - 1
IDENTITY = Program(("x",), ("x",), ())


def constant(bounds, measures, odd):
    """A table of 0 everywhere but in one cell, where it is 1."""
    cells = cells_by_hand(bounds, measures)
    return Table(bounds, measures, tuple(((1 if cell == odd else 0, (0,) * len(cell)),) for cell in cells))


class TestPrograms(unittest.TestCase):
    def assert_unlike_as_searched(self, one, other, most):
        """Against all inputs of numbers below most."""
        unlike = [entered for entered in inputs(len(one.given), most) if results(one, entered) != results(other, entered)]
        found = unlike_input(one, other)
        self.assertIs(alike(one, other), found is None)
        self.assertEqual(unlike_input(other, one), found)
        if found is None:
            self.assertEqual(unlike, [])
        else:
            self.assertNotEqual(results(one, found), results(other, found))
            self.assertLessEqual(by_least(found), min(map(by_least, unlike), default=(GREAT,)))
            if max(found, default=0) < most:
                self.assertEqual(found, min(unlike, key=by_least))

    def test_drawn_programs_and_slightly_changed_ones(self):
        chance = random.Random(51)
        parted = 0
        for _ in range(300):
            program = drawn_program(chance)
            if not program.block:
                continue
            place = chance.choice(places(program))
            other = left_out(program, place) if chance.random() < 0.5 else put_in(
                program, place, ("more", chance.choice("abc")))
            self.assert_unlike_as_searched(program, other, 24 if len(program.given) < 2 else 9)
            parted += 0 if alike(program, other) else 1
        self.assertGreater(parted, 50)

    def test_drawn_programs_that_have_nothing_in_common(self):
        chance = random.Random(52)
        for _ in range(200):
            one = drawn_program(chance, 1)
            other = drawn_program(chance, 1)
            if len(one.told) == len(other.told):
                self.assert_unlike_as_searched(one, other, 24)

    def test_written_otherwise(self):
        again = Program(("q",), ("q",), (("copy", "k", "q"), ("zero", "q"), ("round", "k", (("more", "q"),))))
        self.assertEqual((alike(IDENTITY, again), unlike_input(IDENTITY, again)), (True, None))
        quarter = Program(("x",), ("w",), tuple(divided("x", 2)))
        # Every fourth time one more.
        wheel = tuple(("copy", *pair) for pair in ("ta", "ab", "bc", "cd", "dt"))
        other = Program(("x",), ("a",), (("round", "x", (*wheel, ("more", "d"))),))
        self.assertEqual((alike(quarter, other), unlike_input(quarter, other)), (True, None))
        other = Program(("x",), ("b",), other.block)
        self.assertEqual((alike(quarter, other), unlike_input(quarter, other)), (False, (3,)))
        self.assertIs(alike(renamed(HALF, {"x": "t", "h": "g", "g": "x", "t": "h"}), HALF), True)
        self.assertIs(alike(Program(("x", "y"), ("y",), (("round", "x", (("more", "y"),)),)), SUM), True)
        self.assertIs(alike(Program(("x",), ("x",), (("round", "x", (("more", "x"),)),)), DOUBLE), True)

    def test_known_by_hand(self):
        self.assertEqual((alike(HALF, LESS), unlike_input(HALF, LESS)), (False, (3,)))
        self.assertEqual((alike(HALF, DOUBLE), unlike_input(HALF, DOUBLE)), (False, (1,)))
        self.assertEqual(unlike_input(Program((), ("y",), ()), Program((), ("y",), (("more", "y"),))), ())
        self.assertIsNone(unlike_input(Program((), ("y",), ()), Program((), ("z",), ())))
        one = Program(("x", "y"), ("m",), (("round", "x", (("copy", "m", "k"), ("more", "k"))),))
        # Of (2, 0) and (1, 1) and (0, 2) the sums are the same; only where x is 2 or more m is above 0.
        self.assertEqual(unlike_input(one, Program(("x", "y"), ("m",), ())), (2, 0))
        self.assertEqual(unlike_input(SUM, Program(("x", "y"), ("x",), ())), (0, 1))
        self.assertEqual(unlike_input(SUM, Program(("x", "y"), ("y",), ())), (1, 0))
        both = Program(("x", "y"), ("m",), (("round", "x", (("copy", "m", "y"),)),))
        self.assertEqual(unlike_input(both, Program(("x", "y"), ("m",), ())), (1, 1))

    def test_other_shape_comes_ahead_of_too_many(self):
        great = tuple(divided("x", 10))
        for one, other in ((HALF, SUM), (SUM, HALF), (HALF, Program(("x",), ("h", "g"), HALF.block)),
                           (Program((), ("x",), ()), HALF), (Program(("x",), ("w",), great), SUM),
                           (Program(("x",), ("w", "x"), great), HALF)):
            for ask in (alike, unlike_input):
                with self.assertRaises(OtherShape):
                    ask(one, other)

    def test_too_many(self):
        great = Program(("x",), ("q",), tuple(divided("x", 10)))
        for one, other in ((great, HALF), (HALF, great), (great, great)):
            for ask in (alike, unlike_input):
                with self.assertRaises(TooMany) as caught:
                    ask(one, other)
                self.assertEqual(caught.exception.most, 1000)


class TestTables(unittest.TestCase):
    def test_drawn_tables(self):
        chance = random.Random(53)
        for _ in range(500):
            many = chance.randint(0, 2)
            width = chance.randint(1, 3)
            one = drawn_table(chance, many, width)
            other = drawn_table(chance, many, width)
            if chance.random() < 0.7:
                other = self.slightly_changed(chance, one)
            unlike = [entered for entered in inputs(many, 40 if many < 2 else 26) if value(one, entered) != value(other, entered)]
            found = unlike_value(one, other)
            self.assertEqual(found, min(unlike, key=by_least, default=None))
            self.assertEqual(unlike_value(other, one), found)
            self.assertEqual(found is None, same(one, other))

    def slightly_changed(self, chance, table):
        table = stretched(table, tuple(bound + chance.randint(0, 3) for bound in table.bounds),
                          tuple(measure * chance.randint(1, 2) for measure in table.measures))
        rows = list(table.rows)
        k = chance.randrange(len(rows))
        base, steps = rows[k][0]
        cell = cells_by_hand(table.bounds, table.measures)[k]
        if chance.random() < 0.5:
            base += 1
        else:
            steps = tuple(step + chance.randint(0, 1) if number >= bound else 0
                          for step, number, bound in zip(steps, cell, table.bounds))
        rows[k] = ((base, steps), *rows[k][1:])
        return Table(table.bounds, table.measures, tuple(rows))

    def test_far_and_outermost(self):
        nothing = constant((0,), (1,), None)
        self.assertEqual(unlike_value(constant((999,), (1,), (999,)), nothing), (999,))
        self.assertEqual(unlike_value(constant((0,), (1000,), (999,)), nothing), (999,))
        # Alike up to the first raising of the last cell.
        self.assertEqual(unlike_value(Table((0,), (2,), (((0, (0,)),), ((0, (1,)),))), nothing), (3,))
        one, other = constant((0,), (997,), (996,)), constant((0,), (991,), (990,))
        self.assertEqual(unlike_value(one, other), (990,))
        one, other = constant((0, 0), (1000, 1), (999, 0)), constant((0, 0), (1, 1000), (0, 999))
        self.assertEqual(unlike_value(one, other), (0, 999))
        one, other = constant((0, 0), (31, 32), (30, 31)), constant((0, 0), (29, 33), (28, 32))
        self.assertEqual(unlike_value(one, other), (28, 32))
        nothing = constant((0, 0), (1, 1), None)
        self.assertEqual(unlike_value(one, nothing), (30, 31))
        # The least tuple of the least sum, not the least tuple.
        rows = [((1 if cell in ((0, 9), (3, 4), (4, 3)) else 0, (0, 0)),) for cell in cells_by_hand((9, 9), (1, 1))]
        self.assertEqual(unlike_value(Table((9, 9), (1, 1), tuple(rows)), nothing), (3, 4))

    def test_great_numbers(self):
        one = Table((0,), (3,), (((GREAT, (GREAT,)),), ((0, (0,)),), ((0, (0,)),)))
        other = Table((3,), (3,), (((GREAT, (0,)),), ((0, (0,)),), ((0, (0,)),), ((2 * GREAT, (GREAT - 1,)),), ((0, (0,)),),
                                   ((0, (0,)),)))
        self.assertEqual(unlike_value(one, other), (6,))

    def test_other_shape(self):
        tables = [Table((), (), (((0, ()),),)), Table((0,), (1,), (((0, (0,)),),)), Table((0,), (1,), (((0, (0,)),) * 2,)),
                  Table((0, 0), (1, 1), (((0, (0, 0)),),))]
        for k, one in enumerate(tables):
            for j, other in enumerate(tables):
                if k != j:
                    with self.assertRaises(OtherShape):
                        unlike_value(one, other)
            self.assertIsNone(unlike_value(one, one))


class TestProbes(unittest.TestCase):
    def by_hand(self, bounds, measures):
        found = set(cells_by_hand(bounds, measures))
        for cell in cells_by_hand(bounds, measures):
            for i, number in enumerate(cell):
                if number >= bounds[i]:
                    found.add(cell[:i] + (number + measures[i],) + cell[i + 1:])
        return sorted(found)

    def test_known_by_hand(self):
        self.assertEqual(probes((), ()), [()])
        self.assertEqual(probes((0,), (1,)), [(0,), (1,)])
        self.assertEqual(probes((2,), (3,)), [(k,) for k in range(8)])
        self.assertEqual(probes((0, 0), (1, 1)), [(0, 0), (0, 1), (1, 0)])
        self.assertEqual(probes((1, 0), (1, 2)), [(0, 0), (0, 1), (0, 2), (0, 3), (1, 0), (1, 1), (1, 2), (1, 3), (2, 0), (2, 1)])

    def test_drawn_bounds(self):
        chance = random.Random(54)
        for _ in range(100):
            many = chance.randint(0, 2)
            bounds = tuple(chance.randint(0, 5) for _ in range(many))
            measures = tuple(chance.randint(1, 5) for _ in range(many))
            found = probes(bounds, measures)
            self.assertIs(found.__class__, list)
            self.assertEqual(found, self.by_hand(bounds, measures))
            found.clear()
            self.assertEqual(probes(bounds, measures), self.by_hand(bounds, measures))

    def test_fifth_fact(self):
        """For each probe there are two tables that have unlike values there, and the same at all other probes."""
        chance = random.Random(55)
        for _ in range(60):
            table = drawn_table(chance, most=3, results=1, steps=(1, 2, 3))
            found = probes(table.bounds, table.measures)
            for probe in found:
                other = self.changed_at(table, probe)
                self.assertEqual([entered for entered in found if value(other, entered) != value(table, entered)], [probe])
                self.assertFalse(same(table, other))

    def changed_at(self, table, probe):
        """The table with one more at a probe: the base, with one less as each step; or the step that leads there."""
        rows = []
        for cell, row in zip(cells_by_hand(table.bounds, table.measures), table.rows):
            base, steps = row[0]
            if cell == probe:
                base, steps = base + 1, tuple(max(0, step - 1) for step in steps)
            for i, number in enumerate(cell):
                if number >= table.bounds[i] and cell[:i] + (number + table.measures[i],) + cell[i + 1:] == probe:
                    steps = steps[:i] + (steps[i] + 1,) + steps[i + 1:]
            rows.append(((base, steps),))
        return Table(table.bounds, table.measures, tuple(rows))

    def test_no_bounds(self):
        for bounds, measures in (
                ([0], (1,)), ((0,), [1]), ((0,), ()), ((), (1,)), ((0,), (0,)), ((-1,), (1,)), ((True,), (1,)), ((0,), (True,)),
                ((0, 0, 0), (1, 1, 1)), (None, None), ((0,), None), (0, 1), ("", ""), ((0,), (1, 1)), ((0, 0), (1,)),
                ((0, 0), (1, 0)), (LESS, (1,)), ((0,), LESS), (nested(tuple, 40), (1,)), ((GREAT,), (0,)), ({}, {})):
            with self.subTest(bounds=repr(bounds), measures=repr(measures)), self.assertRaises(NoBounds):
                probes(bounds, measures)
        for thing in odd_things():
            with self.subTest(thing=repr(thing)):
                for bounds, measures in ((thing, (1,)), ((0,), thing), ((thing, True), (1, 1))):
                    with self.assertRaises(NoBounds):
                        probes(bounds, measures)

    def test_too_many(self):
        self.assertEqual(len(probes((0,), (1000,))), 2000)
        self.assertEqual(len(probes((999,), (1,))), 1001)
        for bounds, measures in (((1000,), (1,)), ((0,), (1001,)), ((GREAT, GREAT), (GREAT, GREAT)), ((31, 31), (1, 1))):
            with self.assertRaises(TooMany) as caught:
                probes(bounds, measures)
            self.assertEqual(caught.exception.most, 1000)


if __name__ == "__main__":
    unittest.main()
