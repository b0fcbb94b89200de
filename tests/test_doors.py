"""Over the whole program: one program, or one table, tells the same by all doors."""

import random
import unittest

from drawn import all_moments, drawn_input, drawn_program, drawn_table, far_inputs, inputs, value_by_hand
from flatrounds.asking import least_input
from flatrounds.building import beside
from flatrounds.codes import code_of, program_of, registers_of, run_code
from flatrounds.desk import Desk
from flatrounds.errors import TooMany
from flatrounds.likeness import alike, probes, unlike_input, unlike_value
from flatrounds.live import Run
from flatrounds.making import program_for, put_behind, with_clock
from flatrounds.programs import Program, names, places, renamed
from flatrounds.reading import read_code, read_program, read_table
from flatrounds.runs import deeds, done, last, many_moments, next_at, numbers_at, results
from flatrounds.strangers import learned, refuted
from flatrounds.tables import is_least, least, value
from flatrounds.tabling import count_table, deeds_table, table_ahead, table_of
from flatrounds.texts import code_text, program_text, table_text
from flatrounds.trimming import done_input, idle, never, trimmed


def same_twins(program):
    """Programs that do the same as this one, for all that they were led through."""
    every = names(program)
    new = dict(zip(every, ["n" + name for name in every]))
    back = {after: before for before, after in new.items()}
    return [read_program(program_text(program)), renamed(renamed(program, new), back), Program(*vars(program).values()),
            program_of(read_code(code_text(code_of(program))), every, program.given, program.told)]


class TestOneProgram(unittest.TestCase):
    def assert_runs(self, program, entered, moments):
        """By the doors that lead along a run, of which all moments are known."""
        numbers = moments[-1][1]
        end = len(moments) - 1
        self.assertEqual(last(program, entered), numbers)
        self.assertEqual(results(program, entered), tuple(numbers[name] for name in program.told))
        self.assertEqual(deeds(program, entered), end)
        self.assertEqual((numbers_at(program, entered, end), next_at(program, entered, end)), (numbers, None))
        run = Run(program, entered)
        run.go(end)
        self.assertEqual((run.moment(), run.numbers(), run.coming()), (end, numbers, None))
        for place in places(program):
            many = sum(1 for coming, _ in moments[:-1] if coming[0] == place)
            self.assertEqual((done(program, entered, place), value(count_table(program, place), entered)), (many, (many,)))
        for name in names(program):
            self.assertEqual(many_moments(program, entered, name, numbers[name]),
                             sum(1 for _, held in moments if held[name] == numbers[name]))
        self.assertEqual(run_code(code_of(program), registers_of(program, entered), 100000),
                         tuple(numbers[name] for name in names(program)) + (0,))
        self.assert_tells(program, entered, numbers, end)

    def assert_tells(self, program, entered, numbers, end):
        """By the doors of tables, clocks and a desk."""
        every = names(program)
        told = tuple(numbers[name] for name in program.told)
        self.assertEqual(value(table_of(program), entered), told)
        self.assertEqual(value(table_ahead(program, len(program.block)), entered), tuple(numbers[name] for name in every))
        self.assertEqual(value(deeds_table(program), entered), (end,))
        if len(program.told) < 4:
            self.assertEqual(results(with_clock(program, "clock"), entered), told + (end,))
            self.assertEqual(value(beside(table_of(program), deeds_table(program)), entered), told + (end,))
        desk = Desk()
        desk.tell("program p " + program_text(program).replace("\n", "|"))
        word = ",".join(map(str, entered)) or "-"
        self.assertEqual(desk.tell("run p " + word), " ".join(map(str, told)))
        self.assertEqual(desk.tell("deeds p " + word), str(end))
        self.assertEqual(read_table(desk.tell("table p").replace("|", "\n")), table_of(program))

    def test_drawn_programs(self):
        chance = random.Random(161)
        found = 0
        while found < 100:
            program = drawn_program(chance)
            entered = drawn_input(chance, program, 6)
            moments = all_moments(program, entered, 300)
            if moments is None:
                continue
            found += 1
            for twin in same_twins(program):
                self.assertEqual(twin, program)
                self.assertTrue(alike(twin, program))
                self.assertIsNone(unlike_input(twin, program))
            self.assert_runs(program, entered, moments)
            table = table_of(program)
            self.assertEqual(learned(lambda probe: results(program, probe), table.bounds, table.measures, len(program.told)),
                             table)
            many = len(program.given)
            some = inputs(many, 12 if many < 2 else 5) + far_inputs(chance, many, 5)
            self.assertIsNone(refuted(table, lambda entered: results(program, entered), some))

    def test_great_inputs(self):
        chance = random.Random(162)
        for _ in range(60):
            program = drawn_program(chance)
            for entered in far_inputs(chance, len(program.given), 3):
                self.assert_tells(program, entered, last(program, entered), deeds(program, entered))

    def test_what_is_left_tells_the_same(self):
        chance = random.Random(163)
        for _ in range(60):
            program = drawn_program(chance)
            try:
                left = trimmed(program)
                spare = idle(program)
            except TooMany:
                continue
            self.assertEqual(table_of(left), table_of(program))
            # The last place that can be left out is the first that is.
            self.assertEqual(left == program, not spare)
            for place in never(program):
                self.assertIsNone(done_input(program, place))
                self.assertEqual(least_input(count_table(program, place), 0, 0), (0,) * len(program.given))


class TestOneTable(unittest.TestCase):
    def test_drawn_tables(self):
        chance = random.Random(164)
        for _ in range(60):
            table = drawn_table(chance, results=chance.randint(1, 4), base=chance.choice((3, 20)), cells=30)
            many, width = len(table.bounds), len(table.rows[0])
            program = program_for(table, tuple("xy"[:many]), tuple("abcd"[:width]))
            some = inputs(many, 15 if many < 2 else 8) + far_inputs(chance, many, 5)
            told = [value_by_hand(table, entered) for entered in some]
            for twin in (program, read_program(program_text(program)),
                         put_behind(program, Program(tuple("abcd"[:width]), tuple("abcd"[:width]), ()))
                         if width < 3 else program):
                self.assertEqual([results(twin, entered) for entered in some], told)
            self.assertEqual([value(least(table), entered) for entered in some], told)
            self.assertEqual(table_of(program), least(table))
            self.assertTrue(is_least(least(table)))
            self.assertEqual(read_table(table_text(table)), table)
            self.assertEqual(len(probes(table.bounds, table.measures)), len(set(probes(table.bounds, table.measures))))
            for function in (lambda entered: value(table, entered), lambda entered: results(program, entered)):
                self.assertEqual(learned(function, table.bounds, table.measures, width), table)
                self.assertIsNone(refuted(table, function, some))
            self.assertIsNone(unlike_value(table, table_of(program)))


if __name__ == "__main__":
    unittest.main()
