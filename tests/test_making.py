"""9.1 and 9.2: programs from tables, programs with a clock, programs behind programs."""

import random
import unittest

from drawn import (
    DOUBLE, HALF, SUM, drawn_input, drawn_program, drawn_table, far_inputs, inputs, value_by_hand)
from flatrounds.errors import NoName, NoNames, OtherShape
from flatrounds.making import program_for, put_behind, with_clock
from flatrounds.naming import Supply
from flatrounds.programs import Program, names
from flatrounds.runs import deeds, results
from flatrounds.tables import Table, least, stretched, table_of_any
from flatrounds.tabling import table_of
from oddthings import LESS, nested, odd_things

GREAT = 10 ** 40 - 1
POOL = ("x", "y", "a", "b", "c", "t", "round", "abcdefgh")
IDENTITY = Table((0,), (1,), (((0, (1,)),),))


class TestProgramFor(unittest.TestCase):
    def assert_tells(self, program, table, chance):
        many = len(table.bounds)
        most = max([bound + 3 * measure + 2 for bound, measure in zip(table.bounds, table.measures)], default=1)
        for entered in inputs(many, min(most, 14 if many == 2 else 99)):
            self.assertEqual(results(program, entered), value_by_hand(table, entered))
        for entered in far_inputs(chance, many, 6):
            self.assertEqual(results(program, entered), value_by_hand(table, entered))

    def test_drawn_tables(self):
        chance = random.Random(101)
        for many in (0, 1, 2):
            for width in (1, 2, 3, 4):
                for _ in range(12):
                    table = drawn_table(chance, many, width, most=4, base=20, steps=(0, 0, 1, 2, 19, 20), cells=30)
                    given, told = tuple(chance.sample(POOL, many)), tuple(chance.sample(POOL, width))
                    program = program_for(table, given, told)
                    self.assertEqual((program.given, program.told), (given, told))
                    self.assertEqual(Program(given, told, program.block), program)
                    self.assertEqual(program_for(Table(table.bounds, table.measures, table.rows), given, told), program)
                    self.assert_tells(program, table, chance)

    def test_great_tables(self):
        chance = random.Random(102)
        for bounds, measures in (((0,), (30,)), ((29,), (1,)), ((15,), (15,)), ((0, 0), (5, 6)), ((2, 5), (3, 1)),
                                 ((29, 0), (1, 1)),
                                 ((0, 0), (1, 30))):
            rows = []
            for cell in inputs_of_cells(bounds, measures):
                rows.append(tuple((chance.randint(0, 20), tuple(
                    chance.randint(0, 20) if number >= bound else 0 for number,
                    bound in zip(cell, bounds))) for _ in range(4)))
            table = Table(bounds, measures, tuple(rows))
            program = program_for(table, ("x", "y")[:len(bounds)], ("y", "x", "p", "q"))
            self.assertEqual(Program(program.given, program.told, program.block), program)
            self.assert_tells(program, table, chance)

    def test_names_that_are_given_and_told(self):
        both = Table((0, 0), (1, 1), (((3, (2, 0)), (0, (0, 1))),))
        for given in (("x", "y"), ("abcdefgh", "a"), ("a", "b")):
            for told in (given, given[::-1], ("q", given[0])):
                program = program_for(both, given, told)
                self.assertEqual((program.given, program.told), (given, told))
                for entered in ((0, 0), (5, 7), (GREAT, 1)):
                    self.assertEqual(results(program, entered), (3 + 2 * entered[0], entered[1]))

    def test_tables_that_are_not_least_or_greater_than_can_be_passed(self):
        wide = stretched(IDENTITY, (4,), (6,))
        self.assertEqual(program_for(wide, ("x",), ("y",)), program_for(IDENTITY, ("x",), ("y",)))
        table = Table((40,), (20,), tuple(((k % 7, (25 if k >= 40 else 0,)),) for k in range(60)))
        self.assert_tells(program_for(table, ("x",), ("y",)), table, random.Random(103))

    def test_the_program_has_the_table(self):
        for program in (HALF, LESS, DOUBLE, SUM):
            table = table_of(program)
            self.assertEqual(table_of(program_for(table, program.given, program.told)), table)

    def test_no_names(self):
        for given in ((), ("x", "y"), ("x", "x"), ("X",), ("",), ("abcdefghi",), ["x"], "x", None, True, 0, {}, {"x": 0},
                      (None,),
                      (b"x",), (["x"],), (LESS,), LESS, nested(tuple, 40)):
            with self.subTest(given=repr(given)), self.assertRaises(NoNames):
                program_for(IDENTITY, given, ("y",))
        for told in ((), ("x", "y"), ("y", "y"), ("Y",), ("abcdefghi",), ["y"], "y", None, True, {}, (None,), (b"y",), LESS,
                     nested(list, 40)):
            with self.subTest(told=repr(told)), self.assertRaises(NoNames):
                program_for(IDENTITY, ("x",), told)
        for thing in odd_things():
            if thing == "zero" or thing == ("zero",):
                continue
            for arguments in ((thing, ("y",)), (("x",), thing), ((thing,), ("y",)), (("x",), (thing,)), (thing, thing)):
                with self.subTest(arguments=repr(arguments)), self.assertRaises(NoNames):
                    program_for(IDENTITY, *arguments)

    def test_more_results_than_a_program_can_tell(self):
        five = Table((0,), (1,), (((0, (1,)),) * 5,))
        for told in (("a", "b", "c", "d", "e"), ("a", "b", "c", "d")):
            with self.assertRaises(NoNames):
                program_for(five, ("x",), told)
        three = table_of_any((0, 0, 0), (1, 1, 1), (((0, (1, 1, 1)),),))
        with self.assertRaises(NoNames):
            program_for(three, ("x", "y", "z"), ("a",))


def inputs_of_cells(bounds, measures):
    found = [()]
    for bound, measure in zip(bounds, measures):
        found = [front + (number,) for front in found for number in range(bound + measure)]
    return found


class TestSupply(unittest.TestCase):
    def test_each_once_the_shortest_first(self):
        supply = Supply(("b", "aa"))
        self.assertEqual(supply.one(), "a")
        self.assertEqual(supply.some(2), ["c", "d"])
        self.assertEqual(supply.some(24), list("efghijklmnopqrstuvwxyz") + ["ab", "ac"])
        more = Supply(()).some(26 + 26 ** 2 + 2)
        self.assertEqual((more[26], more[-3:]), ("aa", ["zz", "aaa", "aab"]))
        self.assertEqual(len(set(more)), len(more))


class TestWithClock(unittest.TestCase):
    def test_by_hand(self):
        program = Program(("x",), ("y",), (("zero", "a"), ("round", "x", (("more", "a"), ("copy", "y", "a"))),
                                           ("round", "y", ())))
        tick = ("more", "clock")
        self.assertEqual(with_clock(program, "clock"), Program(("x",), ("y", "clock"), (
            tick, ("zero", "a"), tick, ("round", "x", (tick, ("more", "a"), tick, ("copy", "y", "a"))), tick,
            ("round", "y", ()))))
        self.assertEqual(with_clock(Program((), ("y",), ()), "c"), Program((), ("y", "c"), ()))

    def test_tells_how_many_deeds_are_done(self):
        chance = random.Random(104)
        for _ in range(200):
            program = drawn_program(chance)
            if len(program.told) == 4:
                continue
            clocked = with_clock(program, "clock")
            self.assertEqual((clocked.given, clocked.told), (program.given, program.told + ("clock",)))
            self.assertEqual(Program(clocked.given, clocked.told, clocked.block), clocked)
            for entered in [drawn_input(chance, program, most) for most in (3, 9, 50, GREAT)]:
                self.assertEqual(results(clocked, entered), results(program, entered) + (deeds(program, entered),))

    def test_a_clock_on_a_clock(self):
        twice = with_clock(with_clock(LESS, "c"), "d")
        self.assertEqual(results(twice, (GREAT,)), (GREAT - 1, 1 + 2 * GREAT, 2 + 4 * GREAT))

    def test_greater_than_a_program_can_be(self):
        program = Program((), ("y",), (("more", "y"),) * 5000)
        self.assertEqual(results(with_clock(program, "c"), ()), (5000, 5000))

    def test_no_name(self):
        for name in ("x", "y", "z", "", "X", "abcdefghi", "a b", "a\n", None, True, 0, ("a",), ["a"], b"a", {}, LESS,
                     nested(tuple, 40)):
            with self.subTest(name=repr(name)), self.assertRaises(NoName):
                with_clock(LESS, name)
        for thing in odd_things():
            if thing != "zero":
                with self.subTest(thing=repr(thing)), self.assertRaises(NoName):
                    with_clock(LESS, thing)
        four = Program((), ("a", "b", "c", "d"), ())
        for name in ("e", "a", None):
            with self.assertRaises(NoName):
                with_clock(four, name)
        inside = Program((), ("a",), (("round", "n", (("copy", "p", "q"),)), ("zero", "s")))
        for name in ("n", "p", "q", "s", "a"):
            with self.assertRaises(NoName):
                with_clock(inside, name)


class TestPutBehind(unittest.TestCase):
    def assert_behind(self, program, other, some):
        both = put_behind(program, other)
        self.assertEqual((both.given, both.told), (program.given, other.told))
        if len(both.block) < 1000:
            self.assertEqual(Program(both.given, both.told, both.block), both)
        self.assertEqual(put_behind(program, other), both)
        for entered in some:
            self.assertEqual(results(both, entered), results(other, results(program, entered)))
        return both

    def test_drawn_programs(self):
        chance = random.Random(105)
        found = 0
        while found < 200:
            program, other = drawn_program(chance), drawn_program(chance)
            if len(program.told) != len(other.given):
                with self.assertRaises(OtherShape):
                    put_behind(program, other)
                continue
            found += 1
            many = len(program.given)
            self.assert_behind(program, other, inputs(many, 20 if many < 2 else 6) + far_inputs(chance, many, 4))

    def test_known_by_hand(self):
        self.assertEqual(table_of(put_behind(DOUBLE, HALF)), IDENTITY)
        self.assertEqual(results(put_behind(LESS, LESS), (GREAT,)), (GREAT - 2,))
        swap = Program(("x", "y"), ("y", "x"), ())
        self.assert_behind(swap, swap, [(3, 4), (GREAT, 0)])
        self.assertEqual(results(put_behind(swap, swap), (3, 4)), (3, 4))
        # The other one's names hold 0 at first, whatever the first one left in them.
        left = Program((), ("x",), (("more", "x"), ("more", "y"), ("more", "a"), ("more", "b")))
        self.assertEqual(results(put_behind(left, Program(("x",), ("x", "y", "a", "b"), ())), ()), (1, 0, 0, 0))

    def test_many_names(self):
        lot = Supply(()).some(800)
        program = Program((lot[0],), (lot[1],), tuple(("more", name) for name in lot))
        other = Program((lot[5],), (lot[1], lot[799], lot[5]), tuple(("more", name) for name in lot[1:]))
        both = self.assert_behind(program, other, [(0,), (7,), (GREAT,)])
        self.assertEqual(results(both, (1,)), (1, 1, 2))

    def test_again_and_again(self):
        program = DOUBLE
        for _ in range(10):
            program = put_behind(program, DOUBLE)
        self.assertEqual(results(program, (3,)), (3 * 2 ** 11,))
        great = Program(("x",), ("x",), (("more", "x"),) * 3000)
        self.assertEqual(results(put_behind(great, put_behind(great, great)), (1,)), (9001,))

    def test_other_shape(self):
        none, two = Program((), ("a",), ()), Program(("a", "b"), ("a", "b"), ())
        for program, other in ((LESS, none), (LESS, two), (two, LESS), (two, none), (none, none),
                               (Program((), ("a", "b", "c"), ()), two)):
            with self.assertRaises(OtherShape):
                put_behind(program, other)
        self.assertEqual(results(put_behind(none, LESS), ()), (0,))


if __name__ == "__main__":
    unittest.main()
