"""5.1 and 5.2: tables of programs."""

import itertools
import random
import unittest

from drawn import DOUBLE, HALF, SUM, divided, drawn_program, far_inputs, inputs, is_right, lag
from flatrounds.errors import NoNumber, NoPlace, TooMany
from flatrounds.programs import Program, names, places
from flatrounds.runs import deeds, done, moment_of, numbers_at, results
from flatrounds.tables import Table, is_least, same, value
from flatrounds.tabling import count_table, deeds_table, table_ahead, table_of
from oddthings import LESS, nested, odd_things

GREAT = 10 ** 40 - 1


def turned(many, told=("a",)):
    """A program that turns a 1 around a wheel of so many names."""
    ring = "abcdefg"[:many]
    wheel = [("copy", "t", "a")] + [("copy", *pair) for pair in zip(ring, ring[1:])] + [("copy", ring[-1], "t")]
    return Program(("x",), told, (("more", "a"), ("round", "x", tuple(wheel))))


class TestAgainstRuns(unittest.TestCase):
    def test_drawn_programs(self):
        chance = random.Random(41)
        for _ in range(500):
            program = drawn_program(chance)
            kept = (program.given, program.told, program.block)
            many = len(program.given)
            some = inputs(many, 30 if many < 2 else 9) + far_inputs(chance, many, 12)
            table = table_of(program)
            self.assertTrue(is_least(table) and is_right(table))
            self.assertEqual(len(table.bounds), many)
            for entered in some:
                self.assertEqual(value(table, entered), results(program, entered), (kept, entered))
            self.assertEqual((program.given, program.told, program.block), kept)

    def test_tables_ahead(self):
        chance = random.Random(42)
        for _ in range(200):
            program = drawn_program(chance)
            many = len(program.given)
            some = inputs(many, 20 if many < 2 else 6) + far_inputs(chance, many, 6)
            for k in range(len(program.block) + 1):
                table = table_ahead(program, k)
                self.assertTrue(is_least(table) and is_right(table))
                for entered in some:
                    at_end = k == len(program.block)
                    moment = deeds(program, entered) if at_end else moment_of(program, entered, (k,), 0)
                    numbers = numbers_at(program, entered, moment)
                    self.assertEqual(value(table, entered), tuple(numbers[name] for name in names(program)))

    def test_counts_and_deeds(self):
        chance = random.Random(43)
        for _ in range(200):
            program = drawn_program(chance)
            many = len(program.given)
            some = inputs(many, 20 if many < 2 else 6) + far_inputs(chance, many, 6)
            tables = {place: count_table(program, place) for place in places(program)}
            whole = deeds_table(program)
            for table in (*tables.values(), whole):
                self.assertTrue(is_least(table) and is_right(table))
                self.assertEqual((len(table.bounds), len(table.rows[0])), (many, 1))
            for entered in some:
                self.assertEqual(value(whole, entered), (deeds(program, entered),))
                for place, table in tables.items():
                    self.assertEqual(value(table, entered), (done(program, entered, place),))


class TestKnownByHand(unittest.TestCase):
    def test_half_less_double_and_sum(self):
        self.assertEqual(table_of(HALF), Table((0,), (2,), (((0, (1,)),), ((0, (1,)),))))
        self.assertEqual(table_of(LESS), Table((1,), (1,), (((0, (0,)),), ((0, (1,)),))))
        self.assertEqual(table_of(DOUBLE), Table((0,), (1,), (((0, (2,)),),)))
        self.assertEqual(table_of(SUM), Table((0, 0), (1, 1), (((0, (1, 1)),),)))
        self.assertEqual(deeds_table(HALF), Table((0,), (1,), (((1, (4,)),),)))
        self.assertEqual(count_table(HALF, (0, 2)), Table((0,), (1,), (((0, (1,)),),)))
        self.assertEqual(count_table(HALF, (0,)), Table((0,), (1,), (((1, (0,)),),)))

    def test_no_given_names_and_no_statements(self):
        program = Program((), ("y", "x"), (("more", "x"), ("more", "x"), ("round", "x", (("more", "y"),) * 3)))
        self.assertEqual(table_of(program), Table((), (), (((6, ()), (2, ())),)))
        self.assertEqual(deeds_table(program), Table((), (), (((9, ()),),)))
        self.assertEqual(count_table(program, (2, 1)), Table((), (), (((2, ()),),)))
        self.assertEqual(count_table(program, (2,)), Table((), (), (((1, ()),),)))
        empty = Program(("b", "a"), ("a", "b", "c"), ())
        self.assertEqual(table_of(empty), Table((0, 0), (1, 1), (((0, (0, 1)), (0, (1, 0)), (0, (0, 0))),)))
        self.assertEqual(table_ahead(empty, 0), Table((0, 0), (1, 1), (((0, (0, 1)), (0, (1, 0)), (0, (0, 0))),)))
        self.assertEqual(deeds_table(empty), Table((0, 0), (1, 1), (((0, (0, 0)),),)))

    def test_wheels(self):
        for many in range(2, 8):
            table = table_of(turned(many))
            self.assertEqual(table, Table((0,), (many,), tuple(((1 if k == 0 else 0, (0,)),) for k in range(many))))

    def test_chains(self):
        for many in range(1, 8):
            chain = "abcdefgh"[:many + 1]
            table = table_of(Program(("x",), ("a",), (("round", "x", lag(chain)),)))
            self.assertEqual(table, Table((many,), (1,), (((0, (0,)),),) * many + (((0, (1,)),),)))

    def test_products_of_rests(self):
        three, five = turned(3).block[1], turned(5).block[1]
        block = (("more", "a"), three, ("copy", "f", "a"), ("zero", "a"), ("zero", "b"), ("zero", "c"), ("more", "a"), five)
        program = Program(("x",), ("a", "f"), block)
        self.assertEqual(table_of(program), Table((0,), (15,), tuple(
            ((1 if k % 5 == 0 else 0, (0,)), (1 if k % 3 == 0 else 0, (0,))) for k in range(15))))
        two = Program(("x", "y"), ("a", "f"), block[:-1] + (("round", "y", five[2]),))
        self.assertEqual(table_of(two), Table((0, 0), (3, 5), tuple(
            ((1 if k % 5 == 0 else 0, (0, 0)), (1 if k // 5 == 0 else 0, (0, 0))) for k in range(15))))

    def test_divided_again_and_again(self):
        for times in (1, 3, 6, 9):
            size = 2 ** times
            program = Program(("x",), ("w",), tuple(divided("x", times)))
            self.assertEqual(table_of(program), Table((0,), (size,), (((0, (1,)),),) * size))

    def test_a_round_that_changes_its_name(self):
        program = Program(("x",), ("x",), (("round", "x", (("more", "x"),)),) * 20)
        self.assertEqual(table_of(program), Table((0,), (1,), (((0, (2 ** 20,)),),)))
        self.assertEqual(deeds_table(program), Table((0,), (1,), (((20, (2 ** 20 - 1,)),),)))

    def test_numbers_greater_than_can_be_passed(self):
        program = Program((), ("y",), (("more", "x"),) + (("round", "x", (("more", "x"),) * 19),) * 40)
        self.assertEqual(table_of(program), Table((), (), (((0, ()),),)))
        self.assertEqual(value(table_ahead(program, 41), ()), (20 ** 40, 0))
        self.assertEqual(value(deeds_table(program), ()), (1 + 40 + 20 ** 40 - 1,))

    def test_many_names(self):
        """Names beyond eight, and more results than can be passed."""
        program = Program(("x",), ("a",), (("round", "x", tuple(("more", name) for name in "abcdefghijklmnopqrstuvwyz")),))
        table = table_ahead(program, 1)
        self.assertEqual((table.bounds, table.measures, table.rows), ((0,), (1,), (((0, (1,)),) * 26,)))
        self.assertTrue(is_least(table))
        self.assertEqual(deeds_table(program), Table((0,), (1,), (((1, (25,)),),)))


class TestTooMany(unittest.TestCase):
    def assert_too_many(self, call):
        with self.assertRaises(TooMany) as caught:
            call()
        self.assertEqual(caught.exception.most, 1000)

    def assert_all_too_many(self, program):
        self.assert_too_many(lambda: table_of(program))
        self.assert_too_many(lambda: deeds_table(program))
        for k in (0, 1, len(program.block)):
            self.assert_too_many(lambda: table_ahead(program, k))
        for place in (places(program)[0], places(program)[-1]):
            self.assert_too_many(lambda: count_table(program, place))

    def test_measures(self):
        self.assertEqual(len(table_of(Program(("x",), ("w",), tuple(divided("x", 9)))).rows), 512)
        self.assert_all_too_many(Program(("x",), ("w",), tuple(divided("x", 10))))

    def test_bounds(self):
        """256 rests, and bounds of 256 for each name that the lag is longer."""
        for line, many in (("tw", 512), ("gtw", 768)):
            program = Program(("x",), (line[0],), (*divided("x", 8), ("copy", "h", "w"), ("zero", "w"), ("round", "h", lag(line))))
            self.assertEqual(len(table_of(program).rows), many)
        for line in ("agtw", "bagtw"):
            self.assert_all_too_many(Program(("x",), ("w",), (
                *divided("x", 8), ("copy", "h", "w"), ("zero", "w"), ("round", "h", lag(line)))))

    def test_two_numbers(self):
        for one, other, fits in ((3, 3, True), (3, 4, True), (5, 5, False), (4, 6, False), (1, 9, False)):
            block = divided("x", one) + [("copy", "v", "w")] + divided("y", other)
            program = Program(("x", "y"), ("v", "w"), tuple(block))
            if fits:
                self.assertEqual(table_of(program).measures, (2 ** one, 2 ** other))
                self.assertEqual(len(table_of(program).rows), 2 ** (one + other))
            else:
                self.assert_all_too_many(program)

    def test_what_is_forgotten_behind_counts(self):
        program = Program(("x",), ("w",), (*divided("x", 10), ("zero", "w")))
        self.assert_all_too_many(program)
        # What the told names do not need counts, too.
        self.assert_too_many(lambda: table_of(Program(("x",), ("q",), tuple(divided("x", 10)))))
        fitting = Program(("x", "y"), ("w",), (*divided("x", 5), ("zero", "w"), *divided("y", 5), ("zero", "w")))
        self.assertEqual(table_of(fitting), Table((0, 0), (1, 1), (((0, (0, 0)),),)))
        self.assertEqual(len(table_ahead(fitting, 26).rows), 32)

    def test_deeds_have_more_cells_than_numbers(self):
        block = []
        for name in ("x", "y"):
            block += divided(name, 5) + [("round", "w", (("zero", "g"),)), ("zero", "w")]
        program = Program(("x", "y"), ("h",), tuple(block))
        self.assertEqual(table_of(program), Table((0, 0), (1, 1), (((0, (0, 0)),),)))
        self.assertEqual(len(count_table(program, (26, 0)).rows), 32)
        self.assert_too_many(lambda: deeds_table(program))

    def test_a_parted_table_of_just_as_many(self):
        """Rests by 27 and by 37, and a bound of 1 for what the wheels turn by: 1000 cells."""
        letters = "abcdefghijklmnopqrstuvwxyz"
        every = ["".join(pair) for pair in itertools.product(letters[:4], letters)]
        steps = []
        for ring, spare in ((every[:27], "p"), (every[27:64], "q")):
            steps += [("copy", spare, ring[0])] + [("copy", *pair) for pair in zip(ring, ring[1:])] + [("copy", ring[-1], spare)]
        program = Program(("x",), ("aa", "bb"), (("more", "aa"), ("more", "bb"), ("round", "x", tuple(steps))))
        self.assertEqual(table_of(program), Table((0,), (999,), tuple(
            ((1 if k % 27 == 0 else 0, (0,)), (1 if k % 37 == 0 else 0, (0,))) for k in range(999))))

    def test_rounds_of_fixed_numbers_need_no_parting(self):
        wheel = turned(7).block[1][2]
        fixed = [("more", "n")] * 20 + [("round", "n", wheel), ("round", "n", wheel)]
        program = Program(("x", "y"), ("a", "b"), tuple([("round", "x", wheel), ("round", "y", wheel), *fixed]))
        self.assertEqual(len(table_of(program).rows), 1)
        program = Program(("x", "y"), ("a",), (("more", "a"), ("round", "x", wheel), ("round", "y", wheel), *fixed))
        table = table_of(program)
        self.assertEqual(table.rows, tuple(((1 if (one + two + 40) % 7 == 0 else 0, (0, 0)),) for one in range(7) for two in range(7)))


class TestWrongArguments(unittest.TestCase):
    def test_no_number(self):
        for k in (2, 3, GREAT, -1, True, False, None, "0", (0,), [0], {}, LESS, nested(tuple, 40)):
            with self.subTest(k=repr(k)), self.assertRaises(NoNumber):
                table_ahead(LESS, k)
        for thing in odd_things():
            with self.subTest(thing=repr(thing)), self.assertRaises(NoNumber):
                table_ahead(LESS, thing)

    def test_no_place(self):
        for place in ((1,), (0, 2), (-1,), (True,), (), (0, 0, 0), [0], 0, None, "0", LESS, nested(tuple, 40)):
            with self.subTest(place=repr(place)), self.assertRaises(NoPlace):
                count_table(LESS, place)
        for thing in odd_things():
            with self.subTest(thing=repr(thing)), self.assertRaises(NoPlace):
                count_table(LESS, thing)

    def test_wrong_arguments_come_ahead_of_too_many(self):
        program = Program(("x",), ("w",), tuple(divided("x", 10)))
        for k in (len(program.block) + 1, None, -1):
            with self.assertRaises(NoNumber):
                table_ahead(program, k)
        for place in ((99,), None, (0, 0)):
            with self.assertRaises(NoPlace):
                count_table(program, place)

    def test_equal_calls_give_equal_tables(self):
        chance = random.Random(44)
        for _ in range(30):
            program = drawn_program(chance)
            self.assertEqual(table_of(program), table_of(program))
            self.assertTrue(same(deeds_table(program), deeds_table(program)))


if __name__ == "__main__":
    unittest.main()
