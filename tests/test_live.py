"""2.4: runs that are led."""

import random
import unittest

from drawn import HALF, SUM, drawn_input, drawn_program, small_runs
from flatrounds.errors import NoInput, NoMoment, NoName, NoNumber, NoPlace, RoundError
from flatrounds.live import Run
from flatrounds.programs import Program, names, places
from flatrounds.runs import deeds, first_moment, moment_of, next_at, numbers_at
from oddthings import LESS, nested, odd_things

GREAT = 10 ** 40 - 1


class TestRunsStepByStep(unittest.TestCase):
    def assert_stands(self, run, program, entered, moment):
        self.assertEqual(run.moment(), moment)
        self.assertEqual(run.numbers(), numbers_at(program, entered, moment))
        self.assertEqual(run.coming(), next_at(program, entered, moment))

    def test_on_and_back_through_all_moments(self):
        for program, entered, told in small_runs(9, 80):
            run = Run(program, entered)
            for moment in range(len(told)):
                self.assert_stands(run, program, entered, moment)
                if moment + 1 < len(told):
                    self.assertIsNone(run.go(1))
            for moment in reversed(range(len(told) - 1)):
                self.assertIsNone(run.back(1))
                self.assertEqual((run.moment(), run.coming()), (moment, told[moment][0]))

    def test_jumps_to_both_ends_and_beyond(self):
        for program, entered in ((HALF, (5,)), (HALF, (GREAT,)), (SUM, (GREAT, GREAT)), (Program((), ("y",), ()), ())):
            run = Run(program, entered)
            end = deeds(program, entered)
            for many in (end + 1, end + 2, 3 * GREAT + end):
                with self.assertRaises(NoMoment):
                    run.go(many)
            run.go(end)
            self.assert_stands(run, program, entered, end)
            self.assertIsNone(run.coming())
            run.go(0)
            for many in (1, GREAT):
                with self.assertRaises(NoMoment):
                    run.go(many)
            with self.assertRaises(NoMoment):
                run.back(end + 1)
            self.assert_stands(run, program, entered, end)
            run.back(end)
            self.assert_stands(run, program, entered, 0)
            run.back(0)
            with self.assertRaises(NoMoment):
                run.back(1)
            self.assert_stands(run, program, entered, 0)

    def test_drawn_jumps_in_great_runs(self):
        chance = random.Random(12)
        for _ in range(60):
            program = drawn_program(chance)
            entered = drawn_input(chance, program, GREAT)
            run, end, at = Run(program, entered), deeds(program, entered), 0
            for _ in range(6):
                there = chance.choice((chance.randint(0, end), end, 0, min(end, at + 1)))
                if there >= at:
                    run.go(there - at)
                else:
                    run.back(at - there)
                at = there
                self.assert_stands(run, program, entered, at)

    def test_each_dict_is_new(self):
        run = Run(HALF, (3,))
        run.numbers()["x"] = None
        self.assertEqual(run.numbers()["x"], 3)


class TestTill(unittest.TestCase):
    def test_places_from_all_moments(self):
        for program, entered, told in small_runs(10, 60, 60):
            for place in places(program):
                moments = [moment for moment, (coming, _) in enumerate(told) if coming is not None and coming[0] == place]
                for at in range(len(told)):
                    run = Run(program, entered)
                    run.go(at)
                    later = [moment for moment in moments if moment > at]
                    self.assertIs(run.till(place), bool(later))
                    self.assertEqual(run.moment(), later[0] if later else at)

    def test_numbers_from_all_moments(self):
        for program, entered, told in small_runs(13, 40, 40):
            for name in names(program):
                held = [numbers[name] for _, numbers in told]
                for number in range(max(held) + 2):
                    for at in range(len(told)):
                        run = Run(program, entered)
                        run.go(at)
                        later = [moment for moment, one in enumerate(held) if one == number and moment > at]
                        self.assertIs(run.till_number(name, number), bool(later))
                        self.assertEqual(run.moment(), later[0] if later else at)

    def test_long_runs(self):
        run = Run(HALF, (GREAT,))
        self.assertIs(run.till((0,)), False)
        self.assertEqual(run.moment(), 0)
        for time in range(3):
            self.assertIs(run.till((0, 2)), True)
            self.assertEqual(run.moment(), moment_of(HALF, (GREAT,), (0, 2), time))
        run.go(4 * 10 ** 38)
        self.assertIs(run.till((0, 2)), True)
        self.assertEqual(run.coming(), ((0, 2), 10 ** 38 + 3))
        self.assertIs(run.till_number("h", 10 ** 39), True)
        self.assertEqual(run.moment(), first_moment(HALF, (GREAT,), "h", 10 ** 39))
        self.assertIs(run.till_number("h", 10 ** 39), True)
        self.assertEqual(run.moment(), first_moment(HALF, (GREAT,), "h", 10 ** 39) + 1)
        here = run.moment()
        self.assertIs(run.till_number("h", 10 ** 39 - 1), False)
        self.assertIs(run.till_number("h", GREAT), False)
        self.assertEqual(run.moment(), here)
        run.go(deeds(HALF, (GREAT,)) - here)
        for place in places(HALF):
            self.assertIs(run.till(place), False)
        self.assertIs(run.till_number("x", GREAT), False)
        run.back(1)
        self.assertIs(run.till_number("x", GREAT), True)
        self.assertIsNone(run.coming())

    def test_all_times_in_long_runs(self):
        chance = random.Random(14)
        for _ in range(60):
            program = drawn_program(chance)
            entered = drawn_input(chance, program, GREAT)
            run = Run(program, entered)
            at = chance.randint(0, deeds(program, entered))
            run.go(at)
            for place in places(program):
                other = run.copy()
                if other.till(place):
                    moment = other.moment()
                    self.assertGreater(moment, at)
                    found, time = other.coming()
                    self.assertEqual(found, place)
                    if time > 0:
                        self.assertLessEqual(moment_of(program, entered, place, time - 1), at)
                else:
                    self.assertEqual(other.moment(), at)


class TestCopies(unittest.TestCase):
    def test_copies_go_apart(self):
        run = Run(HALF, (7,))
        run.go(5)
        other = run.copy()
        self.assertIs(other.__class__, Run)
        self.assertEqual((other.moment(), other.numbers(), other.coming()), (5, run.numbers(), run.coming()))
        other.go(3)
        self.assertEqual((run.moment(), other.moment()), (5, 8))
        run.back(5)
        self.assertEqual((run.moment(), other.moment()), (0, 8))
        self.assertIs(other.till((0, 3)), True)
        self.assertEqual((run.moment(), run.copy().moment()), (0, 0))

    def test_two_runs_of_one_program_go_apart(self):
        one, two = Run(HALF, (7,)), Run(HALF, (8,))
        one.go(29)
        self.assertEqual((one.moment(), two.moment()), (29, 0))
        self.assertEqual((one.numbers()["x"], two.numbers()["x"]), (7, 8))
        self.assertFalse(one == two)


class TestWrongArguments(unittest.TestCase):
    def test_no_input(self):
        for entered in ((), (1, 2), [1], None, (True,), (-1,), ("1",), LESS, (LESS,), nested(tuple, 40)):
            with self.subTest(entered=repr(entered)), self.assertRaises(NoInput):
                Run(HALF, entered)
        for thing in odd_things():
            with self.subTest(thing=repr(thing)), self.assertRaises(NoInput):
                Run(HALF, thing)

    def test_refused_calls_change_nothing(self):
        run = Run(HALF, (7,))
        run.go(6)
        numbers = run.numbers()
        for thing in odd_things() + [(9,), (0, 4), (0, 0, 0), "q", -1, True, 30, GREAT]:
            for call, error in ((run.go, NoMoment), (run.back, NoMoment), (run.till, NoPlace),
                                (lambda one: run.till_number(one, 0), NoName),
                                (lambda one: run.till_number(one, None), NoName)):
                with self.subTest(thing=repr(thing)), self.assertRaises(error):
                    call(thing)
            if thing.__class__ is not int or thing < 0:
                with self.subTest(thing=repr(thing)), self.assertRaises(NoNumber):
                    run.till_number("x", thing)
            self.assertEqual((run.moment(), run.coming()), (6, ((0, 1), 1)))
        self.assertEqual(run.numbers(), numbers)

    def test_each_refused_call_is_an_error_of_the_package(self):
        run = Run(HALF, (7,))
        for call in (lambda: run.go(None), lambda: run.back(1), lambda: run.till(None), lambda: run.till_number("x", -1)):
            with self.assertRaises(RoundError):
                call()


if __name__ == "__main__":
    unittest.main()
