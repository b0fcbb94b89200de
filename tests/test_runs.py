"""2.1: results, the last numbers and the deeds of runs."""

import itertools
import random
import unittest

from drawn import DOUBLE, HALF, SUM, all_moments, drawn_input, drawn_program, small_runs
from flatrounds.errors import NoInput
from flatrounds.programs import Program, left_out, names, of_any_size, put_in, renamed
from flatrounds.runs import deeds, last, results
from oddthings import LESS, nested, odd_things

GREAT = 10 ** 40 - 1


def program_of(given, told, *block):
    return Program(given, told, block)


class TestAgainstDeedsOneByOne(unittest.TestCase):
    def test_drawn_programs(self):
        for program, entered, told in small_runs(1, 1500):
            kept = (program.given, program.told, program.block)
            end = told[-1][1]
            self.assertEqual(last(program, entered), end, (kept, entered))
            self.assertEqual(results(program, entered), tuple(end[name] for name in program.told))
            self.assertEqual(deeds(program, entered), len(told) - 1)
            self.assertEqual((program.given, program.told, program.block), kept)

    def test_all_short_rounds(self):
        some = [("zero", "a"), ("more", "a"), ("copy", "a", "b"), ("copy", "b", "a"), ("more", "x"), ("copy", "x", "b")]
        for length in range(4):
            for steps in itertools.product(some, repeat=length):
                program = program_of(("x", "b"), ("a", "b", "x"), ("round", "x", steps), ("round", "a", steps))
                for entered in ((0, 3), (1, 0), (2, 7), (5, 1)):
                    told = all_moments(program, entered)
                    self.assertEqual(last(program, entered), told[-1][1])
                    self.assertEqual(deeds(program, entered), len(told) - 1)


class TestWhatIsTold(unittest.TestCase):
    def test_kinds_of_what_is_returned(self):
        for program in (HALF, LESS, SUM):
            entered = (3,) * len(program.given)
            self.assertIs(results(program, entered).__class__, tuple)
            self.assertIs(last(program, entered).__class__, dict)
            self.assertIs(deeds(program, entered).__class__, int)
            self.assertEqual(sorted(last(program, entered)), list(names(program)))

    def test_each_dict_is_new(self):
        found = last(HALF, (3,))
        found["x"] = None
        self.assertEqual(last(HALF, (3,)), {"x": 3, "h": 1, "g": 2, "t": 1})

    def test_order_of_given_and_told_names(self):
        program = program_of(("b", "a"), ("a", "c", "b"), ("more", "a"))
        self.assertEqual(results(program, (10, 20)), (21, 0, 10))
        self.assertEqual(last(program, (10, 20)), {"a": 21, "b": 10, "c": 0})

    def test_no_statements(self):
        for given, entered in (((), ()), (("x",), (7,)), (("x", "y"), (7, GREAT))):
            program = program_of(given, ("y",))
            told = entered[1] if len(entered) == 2 else 0
            self.assertEqual((results(program, entered), deeds(program, entered)), ((told,), 0))

    def test_rounds_without_deeds(self):
        program = program_of(("x",), ("x", "y"), ("round", "x", ()), ("more", "y"), ("round", "y", ()))
        for number in (0, 1, GREAT):
            self.assertEqual((results(program, (number,)), deeds(program, (number,))), ((number, 1), 3))

    def test_rounds_done_no_times(self):
        program = program_of(("x",), ("x", "y"), ("round", "x", (("more", "y"), ("more", "x"))), ("round", "z", (("more", "y"),)))
        self.assertEqual((results(program, (0,)), deeds(program, (0,))), ((0, 0), 2))
        self.assertEqual((results(program, (4,)), deeds(program, (4,))), ((8, 4), 10))

    def test_rounds_that_change_their_own_name(self):
        for steps, told in (((("more", "x"),), 10), ((("zero", "x"),), 0), ((("zero", "x"), ("more", "x")), 1),
                            ((("copy", "x", "y"), ("more", "y")), 4)):
            program = program_of(("x",), ("x",), ("round", "x", steps))
            self.assertEqual(results(program, (5,)), (told,))
            self.assertEqual(deeds(program, (5,)), 1 + 5 * len(steps))
        twice = program_of(("x",), ("x",), *[("round", "x", (("more", "x"),))] * 3)
        self.assertEqual((results(twice, (5,)), deeds(twice, (5,))), ((40,), 3 + 5 + 10 + 20))

    def test_a_deed_on_one_name(self):
        self.assertEqual(last(program_of(("x",), ("x",), ("copy", "x", "x")), (9,)), {"x": 9})
        self.assertEqual(last(program_of((), ("x",), ("zero", "x"), ("more", "x"), ("more", "x")), ()), {"x": 2})


class TestGreatNumbers(unittest.TestCase):
    def test_wheels(self):
        for number in (GREAT, GREAT - 1, 10 ** 39, 10 ** 39 + 1):
            self.assertEqual(last(HALF, (number,)), {"x": number, "h": number // 2, "g": (number + 1) // 2,
                                                     "t": (number - 1) // 2})
            self.assertEqual(deeds(HALF, (number,)), 1 + 4 * number)
        wheel = program_of(("x",), ("a", "b", "c"), ("more", "a"), ("round", "x", (
            ("copy", "t", "a"), ("copy", "a", "b"), ("copy", "b", "c"), ("copy", "c", "t"))))
        for number in range(GREAT - 6, GREAT + 1):
            self.assertEqual(results(wheel, (number,)), tuple(1 if (number + k) % 3 == 0 else 0 for k in (0, 1, 2)))

    def test_chains_and_lags(self):
        lag = program_of(("x",), ("d", "c", "b", "a"), ("round", "x", (
            ("copy", "d", "c"), ("copy", "c", "b"), ("copy", "b", "a"), ("more", "a"))))
        self.assertEqual(results(lag, (GREAT,)), (GREAT - 3, GREAT - 2, GREAT - 1, GREAT))
        self.assertEqual(results(lag, (2,)), (0, 0, 1, 2))
        self.assertEqual(results(LESS, (GREAT,)), (GREAT - 1,))
        ended = program_of(("x",), ("c", "b", "a"), ("more", "a"), ("more", "c"), ("round", "x", (
            ("copy", "c", "b"), ("copy", "b", "a"), ("zero", "a"))))
        self.assertEqual([results(ended, (n,)) for n in (0, 1, 2, GREAT)], [(1, 0, 1), (0, 1, 0), (1, 0, 0), (0, 0, 0)])

    def test_numbers_that_grow_beyond(self):
        block = []
        for one, other in zip("abcdefg", "bcdefgh"):
            block.append(("round", one, (("more", other),) * 3))
        program = program_of(("a",), ("h",), *block)
        self.assertEqual(results(program, (GREAT,)), (GREAT * 3 ** 7,))
        self.assertEqual(deeds(program, (GREAT,)), 7 + sum(3 ** k * GREAT for k in range(1, 8)))

    def test_two_great_numbers(self):
        self.assertEqual(results(SUM, (GREAT, GREAT - 5)), (2 * GREAT - 5,))
        self.assertEqual(results(DOUBLE, (GREAT,)), (2 * GREAT,))

    def test_sums_of_runs(self):
        """A round of a number and one of another one, or one round of both."""
        chance = random.Random(3)
        for _ in range(60):
            steps = drawn_program(chance, 0).block
            steps = tuple(step for step in steps if step[0] != "round")
            both = Program(("x", "y"), ("a",), (("round", "x", steps), ("round", "y", steps)))
            one = Program(("x", "y"), ("a",), (("round", "y", (("more", "x"),)), ("round", "x", steps)))
            if not {"x", "y"} & {name for step in steps for name in step[1:]}:
                entered = (chance.randint(0, GREAT), chance.randint(0, GREAT))
                here, there = last(both, entered), last(one, entered)
                del here["x"], there["x"]
                self.assertEqual(here, there)


class TestGreaterPrograms(unittest.TestCase):
    """0.5: these functions take programs of any size."""

    def test_many_statements_and_names(self):
        letters = "abcdefghijklmnopqrstuvwxyz"
        every = ["".join(three) for three in itertools.product(letters, repeat=3)]
        chain = tuple(("copy", *pair) for pair in zip(every, every[1:4999])) + (("more", every[4998]),)
        program = Program(("x",), ("aaa",), (("round", "x", chain),))
        for number, told in ((GREAT, GREAT - 4998), (4999, 1), (4998, 0), (2500, 0), (3, 0)):
            self.assertEqual(results(program, (number,)), (told,))
            self.assertEqual(deeds(program, (number,)), 1 + 4999 * number)
        program = Program(("x",), ("aaa",), tuple(("round", "x", (("more", name),)) for name in every[:2500]))
        self.assertEqual(last(program, (GREAT,)), {"x": GREAT, **{name: GREAT for name in every[:2500]}})
        program = of_any_size(("aaa",), (every[9000],), tuple(("copy", *pair[::-1]) for pair in zip(every, every[1:9001])))
        self.assertEqual((results(program, (GREAT,)), deeds(program, (GREAT,))), ((GREAT,), 9000))

    def test_programs_that_were_made_of_others(self):
        self.assertEqual(results(left_out(HALF, (0, 3)), (9,)), (0,))
        self.assertEqual(results(put_in(HALF, (1,), ("more", "h")), (9,)), (5,))
        self.assertEqual(results(renamed(HALF, {"x": "h", "h": "x", "g": "t", "t": "g"}), (9,)), (4,))


class TestNoInput(unittest.TestCase):
    def test_wrong_inputs(self):
        for program, wrong in (
                (HALF, ((), (1, 2), [1], 1, (True,), (False,), (-1,), ("1",), (None,), ((1,),), ([],), None, "x", {},
                        {"x": 1}, b"\x01", range(1), (LESS,), LESS, nested(tuple, 40), (nested(list, 39),))),
                (SUM, ((), (1,), (1, 2, 3), [1, 2], (1, True), (True, 1), (1, -1), (-1, 1), (1, None), {"x": 1, "y": 2})),
                (Program((), ("x",), ()), ((0,), (1,), [], {}, None, 0, "", (None,)))):
            for entered in wrong:
                for ask in (results, last, deeds):
                    with self.subTest(entered=repr(entered)), self.assertRaises(NoInput):
                        ask(program, entered)

    def test_any_object_is_judged(self):
        for thing in odd_things():
            for ask in (results, last, deeds):
                with self.subTest(thing=repr(thing)):
                    with self.assertRaises(NoInput):
                        ask(HALF, thing)
                    with self.assertRaises(NoInput):
                        ask(SUM, thing)
                    if thing.__class__ is not int or thing < 0:
                        with self.assertRaises(NoInput):
                            ask(HALF, (thing,))
                        with self.assertRaises(NoInput):
                            ask(SUM, (1, thing))

    def test_equal_calls_give_equal_answers(self):
        chance = random.Random(11)
        for _ in range(30):
            program = drawn_program(chance)
            entered = drawn_input(chance, program, GREAT)
            self.assertEqual(last(program, entered), last(program, entered))
            self.assertEqual(list(last(program, entered)), list(last(program, entered)))


if __name__ == "__main__":
    unittest.main()
