"""2.2: the numbers at a moment, what is next, how often a deed is done, and when."""

import random
import unittest

from drawn import HALF, SUM, drawn_input, drawn_program, small_runs
from flatrounds.errors import NoInput, NoMoment, NoPlace, NoTime
from flatrounds.programs import Program, names, places
from flatrounds.runs import deeds, done, last, moment_of, next_at, numbers_at
from oddthings import LESS, done_deeds, nested, odd_things

GREAT = 10 ** 40 - 1
EMPTY = Program((), ("y",), ())
# A round without deeds, one done no times, a deed, and a round that changes its own name.
MIXED = Program(("x",), ("y",), (
    ("round", "x", ()), ("round", "z", (("more", "y"), ("more", "y"))), ("more", "y"),
    ("round", "x", (("zero", "x"), ("more", "y"))), ("zero", "z")))
NO_NUMBERS = (-1, -GREAT, True, False, None, "0", b"0", (0,), [0], {}, LESS, nested(tuple, 40), range(1))
NO_PLACES = ((5,), (-1,), (0, 0), (1, 2), (2, 0), (3, -1), (4, 0), (5, 0), (3, 0, 0), (), (True,), (3, False), (None,), 3,
             [3], [3, 0], "3", None, {}, LESS, (LESS,), nested(tuple, 40))


class TestAllMoments(unittest.TestCase):
    def test_drawn_programs(self):
        for program, entered, told in small_runs(2, 700):
            times = {}
            for moment, (coming, numbers) in enumerate(told):
                self.assertEqual(numbers_at(program, entered, moment), numbers)
                self.assertEqual(next_at(program, entered, moment), coming)
                if coming is not None:
                    self.assertEqual(moment_of(program, entered, *coming), moment)
                    times[coming[0]] = times.get(coming[0], 0) + 1
            for place in places(program):
                many = times.get(place, 0)
                self.assertEqual(done(program, entered, place), many)
                for time in (many, many + 1, GREAT):
                    with self.assertRaises(NoTime):
                        moment_of(program, entered, place, time)
            for moment in (len(told), len(told) + 1, GREAT):
                for ask in (numbers_at, next_at):
                    with self.assertRaises(NoMoment):
                        ask(program, entered, moment)

    def test_rounds_that_are_their_beginning_alone(self):
        found = [next_at(MIXED, (2,), moment) for moment in range(deeds(MIXED, (2,)) + 1)]
        self.assertEqual(found, [((0,), 0), ((1,), 0), ((2,), 0), ((3,), 0), ((3, 0), 0), ((3, 1), 0), ((3, 0), 1),
                                 ((3, 1), 1), ((4,), 0), None])
        self.assertEqual([done(MIXED, (2,), place) for place in places(MIXED)], [1, 1, 0, 0, 1, 1, 2, 2, 1])
        self.assertEqual([moment_of(MIXED, (2,), (k,), 0) for k in range(5)], [0, 1, 2, 3, 8])

    def test_the_last_moment(self):
        for program, entered in ((HALF, (5,)), (MIXED, (3,)), (SUM, (GREAT, GREAT)), (HALF, (GREAT,))):
            moment = deeds(program, entered)
            self.assertIsNone(next_at(program, entered, moment))
            self.assertEqual(numbers_at(program, entered, moment), last(program, entered))
            self.assertIsNotNone(next_at(program, entered, moment - 1))
        self.assertIsNone(next_at(EMPTY, (), 0))
        self.assertEqual(numbers_at(EMPTY, (), 0), {"y": 0})

    def test_the_first_moment(self):
        self.assertEqual(numbers_at(SUM, (GREAT, 3), 0), {"x": GREAT, "y": 3})
        self.assertEqual(numbers_at(SUM, (GREAT, 3), 1), {"x": GREAT, "y": 3})
        self.assertEqual((next_at(SUM, (GREAT, 3), 0), next_at(SUM, (GREAT, 3), 1)), (((0,), 0), ((0, 0), 0)))


class TestGreatRuns(unittest.TestCase):
    def test_drawn_and_outermost_moments(self):
        """From each moment to the one behind it the deed that is next is done, and moments and times lead to each other."""
        chance = random.Random(5)
        for _ in range(150):
            program = drawn_program(chance)
            entered = drawn_input(chance, program, GREAT)
            end = deeds(program, entered)
            moments = [0, 1, 2, end - 1, end - 2, end] + [chance.randint(0, end) for _ in range(8)]
            for place in places(program):
                many = done(program, entered, place)
                for time in {0, 1, many - 2, many - 1, chance.randint(0, many)}:
                    if 0 <= time < many:
                        moment = moment_of(program, entered, place, time)
                        self.assertEqual(next_at(program, entered, moment), (place, time))
                        moments.append(moment)
            for moment in moments:
                if 0 <= moment < end:
                    self.assert_deed_done(program, entered, moment)
            self.assertIsNone(next_at(program, entered, end))
            self.assertEqual(numbers_at(program, entered, end), last(program, entered))

    def assert_deed_done(self, program, entered, moment):
        place, time = next_at(program, entered, moment)
        self.assertEqual(moment_of(program, entered, place, time), moment)
        numbers = numbers_at(program, entered, moment)
        self.assertEqual(sorted(numbers), list(names(program)))
        statement = program.block[place[0]]
        if len(place) == 2:
            self.assertEqual(statement[0], "round")
            numbers = done_deeds((statement[2][place[1]],), numbers)
        elif statement[0] != "round":
            numbers = done_deeds((statement,), numbers)
        self.assertEqual(numbers_at(program, entered, moment + 1), numbers)

    def test_known_by_hand(self):
        middle = 1 + 4 * (10 ** 39 + 1)
        self.assertEqual(next_at(HALF, (GREAT,), middle), ((0, 0), 10 ** 39 + 1))
        self.assertEqual(numbers_at(HALF, (GREAT,), middle), {
            "x": GREAT, "h": 10 ** 39 // 2, "g": 10 ** 39 // 2 + 1, "t": 10 ** 39 // 2})
        self.assertEqual(numbers_at(HALF, (GREAT,), middle + 2)["h"], 10 ** 39 // 2 + 1)
        self.assertEqual(done(HALF, (GREAT,), (0, 3)), GREAT)
        self.assertEqual(moment_of(HALF, (GREAT,), (0, 3), GREAT - 1), 4 * GREAT)
        self.assertEqual(numbers_at(SUM, (5, GREAT), 1 + 10 ** 38), {"x": 5 + 10 ** 38, "y": GREAT})

    def test_greater_programs_have_numbers_at(self):
        program = Program(("x",), ("y",), tuple(("round", "x", (("more", "y"), ("copy", "z", "y"))) for _ in range(1600)))
        part = 1 + 2 * GREAT
        numbers = numbers_at(program, (GREAT,), 1599 * part + 1 + 2 * 10 ** 39)
        self.assertEqual(numbers, {"x": GREAT, "y": 1599 * GREAT + 10 ** 39, "z": 1599 * GREAT + 10 ** 39})


class TestWrongArguments(unittest.TestCase):
    def test_each_dict_is_new(self):
        found = numbers_at(HALF, (3,), 4)
        found["x"] = None
        self.assertEqual(numbers_at(HALF, (3,), 4)["x"], 3)

    def test_no_moment(self):
        end = deeds(MIXED, (2,))
        for moment in NO_NUMBERS + (end + 1, end + 2, GREAT):
            for ask in (numbers_at, next_at):
                with self.subTest(moment=repr(moment)), self.assertRaises(NoMoment):
                    ask(MIXED, (2,), moment)
        for thing in odd_things():
            for ask in (numbers_at, next_at):
                with self.subTest(thing=repr(thing)), self.assertRaises(NoMoment):
                    ask(MIXED, (2,), thing)

    def test_no_place(self):
        for place in NO_PLACES:
            with self.subTest(place=repr(place)):
                with self.assertRaises(NoPlace):
                    done(MIXED, (2,), place)
                for time in (0, None, GREAT):
                    with self.assertRaises(NoPlace):
                        moment_of(MIXED, (2,), place, time)
        for thing in odd_things():
            with self.subTest(thing=repr(thing)), self.assertRaises(NoPlace):
                done(MIXED, (2,), thing)
            with self.subTest(thing=repr(thing)), self.assertRaises(NoPlace):
                moment_of(MIXED, (2,), (3, thing), 0)

    def test_no_time(self):
        for place, many in (((0,), 1), ((1, 0), 0), ((2,), 1), ((3,), 1), ((3, 1), 2)):
            for time in NO_NUMBERS + (many, many + 1, GREAT):
                with self.subTest(place=place, time=repr(time)), self.assertRaises(NoTime):
                    moment_of(MIXED, (2,), place, time)
        for thing in odd_things():
            with self.subTest(thing=repr(thing)), self.assertRaises(NoTime):
                moment_of(MIXED, (2,), (0,), thing)

    def test_no_input_comes_first(self):
        for entered in ((), (1, 2), [1], None, (True,), (-1,), LESS):
            for call in (lambda: numbers_at(MIXED, entered, 0), lambda: numbers_at(MIXED, entered, None),
                         lambda: next_at(MIXED, entered, -1), lambda: done(MIXED, entered, (0,)),
                         lambda: done(MIXED, entered, (9,)), lambda: moment_of(MIXED, entered, (0,), 0),
                         lambda: moment_of(MIXED, entered, None, None), lambda: moment_of(MIXED, entered, (0,), 5)):
                with self.subTest(entered=repr(entered)), self.assertRaises(NoInput):
                    call()
        for thing in odd_things():
            with self.subTest(thing=repr(thing)), self.assertRaises(NoInput):
                moment_of(MIXED, thing, thing, thing)


if __name__ == "__main__":
    unittest.main()
