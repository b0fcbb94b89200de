"""2.3: the first moment at which a name has a number, and how many there are."""

import random
import unittest

from drawn import HALF, SUM, drawn_input, drawn_program, small_runs
from flatrounds.errors import NoInput, NoName, NoNumber
from flatrounds.programs import Program, names
from flatrounds.runs import deeds, first_moment, many_moments, next_at, numbers_at
from oddthings import LESS, nested, odd_things

GREAT = 10 ** 38
ROUND_ONE = Program(("x",), ("y",), (("round", "x", (("more", "y"),)),))


class TestAgainstAllMoments(unittest.TestCase):
    def test_drawn_programs(self):
        for program, entered, told in small_runs(4, 900):
            for name in names(program):
                held = [numbers[name] for _, numbers in told]
                for number in sorted({*range(9), *held, max(held) + 1}):
                    moments = [moment for moment, one in enumerate(held) if one == number]
                    self.assertEqual(first_moment(program, entered, name, number), moments[0] if moments else None)
                    self.assertEqual(many_moments(program, entered, name, number), len(moments))

    def test_all_moments_are_counted_once(self):
        for program, entered, told in small_runs(6, 150):
            for name in names(program):
                most = max(numbers[name] for _, numbers in told)
                total = sum(many_moments(program, entered, name, number) for number in range(most + 1))
                self.assertEqual(total, len(told))


class TestGreatRuns(unittest.TestCase):
    def test_one_name_that_grows(self):
        # Moment 0 is ahead of the round, moment 1 ahead of its first deed.
        for number, first, many in ((0, 0, 2), (1, 2, 1), (2, 3, 1), (GREAT - 1, GREAT, 1), (GREAT, GREAT + 1, 1),
                                    (GREAT + 1, None, 0)):
            self.assertEqual(first_moment(ROUND_ONE, (GREAT,), "y", number), first)
            self.assertEqual(many_moments(ROUND_ONE, (GREAT,), "y", number), many)

    def test_a_name_that_stays(self):
        self.assertEqual(many_moments(ROUND_ONE, (GREAT,), "x", GREAT), GREAT + 2)
        self.assertEqual(first_moment(ROUND_ONE, (GREAT,), "x", GREAT), 0)
        self.assertEqual((first_moment(ROUND_ONE, (GREAT,), "x", 0), many_moments(ROUND_ONE, (GREAT,), "x", 0)), (None, 0))

    def test_a_name_that_comes_and_goes(self):
        program = Program(("x",), ("y",), (("round", "x", (("more", "y"), ("more", "y"), ("zero", "y"))), ("more", "y")))
        for number, first, many in ((0, 0, GREAT + 2), (1, 2, GREAT + 1), (2, 3, GREAT), (3, None, 0)):
            self.assertEqual(first_moment(program, (GREAT,), "y", number), first)
            self.assertEqual(many_moments(program, (GREAT,), "y", number), many)

    def test_halves(self):
        # Behind t rounds of four deeds h is t // 2, and the second deed of a round sets it to (t + 1) // 2.
        for number in (1, 7, GREAT // 2 - 1):
            self.assertEqual(first_moment(HALF, (GREAT,), "h", number), 1 + 4 * (2 * number - 1) + 2)
            self.assertEqual(many_moments(HALF, (GREAT,), "h", number), 8)
        self.assertEqual(first_moment(HALF, (GREAT,), "h", GREAT // 2), 1 + 4 * (GREAT - 1) + 2)
        self.assertEqual(many_moments(HALF, (GREAT,), "h", GREAT // 2), 3)
        self.assertEqual((first_moment(HALF, (GREAT,), "h", 0), many_moments(HALF, (GREAT,), "h", 0)), (0, 7))
        self.assertIsNone(first_moment(HALF, (GREAT,), "h", GREAT // 2 + 1))

    def test_chains_hand_on(self):
        chain = Program(("x",), ("c",), (("more", "a"), ("round", "x", (("copy", "c", "b"), ("copy", "b", "a"), ("zero", "a")))))
        self.assertEqual([many_moments(chain, (GREAT,), name, 1) for name in "abc"], [4, 3, 3])
        self.assertEqual([first_moment(chain, (GREAT,), name, 1) for name in "abc"], [1, 4, 6])
        self.assertEqual(many_moments(chain, (GREAT,), "c", 0), 3 * GREAT)

    def test_steps_that_pass_over_a_number(self):
        program = Program(("x",), ("y",), (("round", "x", (("copy", "y", "z"),) + (("more", "z"),) * 7),))
        self.assertEqual(first_moment(program, (GREAT,), "y", 7 * 10 ** 30), 2 + 8 * 10 ** 30)
        self.assertEqual(many_moments(program, (GREAT,), "y", 7 * 10 ** 30), 8)
        for number in (7 * 10 ** 30 + 1, 7 * 10 ** 30 - 3, 7 * GREAT):
            self.assertIsNone(first_moment(program, (GREAT,), "y", number))
            self.assertEqual(many_moments(program, (GREAT,), "y", number), 0)

    def test_drawn_great_runs(self):
        """Numbers that are met at drawn moments are found, no later; None and 0 go together."""
        chance = random.Random(8)
        for _ in range(200):
            program = drawn_program(chance)
            entered = drawn_input(chance, program, 10 ** 40 - 1)
            end = deeds(program, entered)
            moment = chance.randint(0, end)
            for name, number in numbers_at(program, entered, moment).items():
                first = first_moment(program, entered, name, number)
                self.assertLessEqual(first, moment)
                self.assertEqual(numbers_at(program, entered, first)[name], number)
                if first > 0:
                    self.assertNotEqual(numbers_at(program, entered, first - 1)[name], number)
                    self.assertIsNotNone(next_at(program, entered, first - 1))
                many = many_moments(program, entered, name, number)
                self.assertTrue(1 <= many <= end + 1)
                for other in (chance.randint(0, 10 ** 40), number + 1):
                    found = first_moment(program, entered, name, other)
                    self.assertEqual(found is None, many_moments(program, entered, name, other) == 0)
                    if found is not None:
                        self.assertEqual(numbers_at(program, entered, found)[name], other)


class TestWrongArguments(unittest.TestCase):
    def test_no_name(self):
        for name in ("q", "X", "", "xx", "abcdefghi", None, 0, True, ("x",), ["x"], b"x", {}, {"x": 1}, LESS, nested(list, 40)):
            for number in (0, None):
                for ask in (first_moment, many_moments):
                    with self.subTest(name=repr(name)), self.assertRaises(NoName):
                        ask(SUM, (1, 2), name, number)
        for thing in odd_things():
            for ask in (first_moment, many_moments):
                with self.subTest(thing=repr(thing)), self.assertRaises(NoName):
                    ask(SUM, (1, 2), thing, thing)

    def test_no_number(self):
        for number in (-1, True, False, None, "0", (0,), [0], {}, LESS, nested(tuple, 40), -GREAT):
            for ask in (first_moment, many_moments):
                with self.subTest(number=repr(number)), self.assertRaises(NoNumber):
                    ask(SUM, (1, 2), "x", number)
        for thing in odd_things():
            if thing.__class__ is not int or thing < 0:
                for ask in (first_moment, many_moments):
                    with self.subTest(thing=repr(thing)), self.assertRaises(NoNumber):
                        ask(SUM, (1, 2), "x", thing)

    def test_no_input_comes_first(self):
        for entered in ((), (1,), (1, -1), [1, 2], None, LESS, (1, True)):
            for name, number in (("x", 0), ("q", 0), ("x", None), (None, None)):
                for ask in (first_moment, many_moments):
                    with self.subTest(entered=repr(entered)), self.assertRaises(NoInput):
                        ask(SUM, entered, name, number)


if __name__ == "__main__":
    unittest.main()
