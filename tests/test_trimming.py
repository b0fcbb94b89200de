"""10.1: deeds that are never done, statements that are not needed, and programs without them."""

import random
import unittest

from drawn import HALF, SUM, by_least, divided, drawn_program, inputs, lag
from flatrounds.errors import NoPlace, TooMany
from flatrounds.likeness import alike
from flatrounds.programs import Program, left_out, names, places
from flatrounds.runs import done, results
from flatrounds.tabling import table_of
from flatrounds.trimming import done_input, idle, never, trimmed
from oddthings import LESS, nested, odd_things

GREAT = 10 ** 40 - 1
COUNTED = Program(("x", "y"), ("r",), (
    ("round", "x", lag("abcd")), ("round", "y", lag("efg")), ("round", "a", (("more", "r"),)), ("zero", "a"),
    ("round", "e", (("more", "r"), ("more", "s"))), ("round", "a", (("more", "r"), ("zero", "r"))), ("round", "x", ())))
# Behind these statements rests by 512 are told apart; behind a tenth halving there would be too many of them.
HALVED = Program(("x",), ("w",), tuple(divided("x", 9)))
# Only what is left without the zero in its midst has too many cells.
TIGHT = Program(("x", "y"), ("q",), (*divided("x", 5), ("zero", "w"), *divided("y", 5), ("zero", "w")))


def outcome(call, *arguments):
    """What a call returns, or what TooMany tells."""
    try:
        return call(*arguments)
    except TooMany as wrong:
        return wrong.most


def idle_by_hand(program):
    return [place for place in places(program) if alike(program, left_out(program, place))]


def trimmed_by_hand(program):
    left = program
    for place in reversed(places(program)):
        if alike(program, left_out(left, place)):
            left = left_out(left, place)
    return left


class TestNeverAndDone(unittest.TestCase):
    def test_drawn_programs_against_runs(self):
        chance = random.Random(111)
        for _ in range(250):
            program = drawn_program(chance)
            many = len(program.given)
            some = sorted(inputs(many, 40 if many < 2 else 12), key=by_least)
            undone = []
            for place in places(program):
                ways = [entered for entered in some if done(program, entered, place) > 0]
                self.assertEqual(done_input(program, place), ways[0] if ways else None, (program.block, place))
                if not ways:
                    undone.append(place)
            self.assertEqual(never(program), undone)
            self.assertIsNot(never(program), never(program))

    def test_known_by_hand(self):
        self.assertEqual(never(COUNTED), [(5, 0), (5, 1)])
        self.assertEqual([done_input(COUNTED, place) for place in ((0, 0), (1, 2), (2, 0), (4, 1), (5, 0), (5,), (6,))],
                         [(1, 0), (0, 1), (4, 0), (0, 3), None, (0, 0), (0, 0)])
        both = Program(("x", "y"), ("r",), (("round", "x", (("more", "s"),)), ("round", "y", (("more", "s"),)),
                                            ("round", "s", lag("ar")), ("round", "a", (("more", "r"),))))
        # Of several inputs of the least sum it is the least tuple.
        self.assertEqual(done_input(both, (3, 0)), (0, 2))
        self.assertEqual(done_input(Program((), ("r",), (("zero", "r"),)), (0,)), ())
        self.assertEqual(never(Program((), ("r",), (("round", "r", (("more", "r"),)), ("more", "r"),
                                                    ("round", "r", (("more", "r"),))))),
                         [(0, 0)])
        self.assertEqual(never(Program(("x",), ("x",), ())), [])

    def test_far_inputs(self):
        late = Program(("x",), ("r",), (("round", "x", lag("abcdefg")), ("round", "a", lag("hijklmnopq")),
                                        ("round", "h", (("more", "r"),))))
        self.assertEqual(done_input(late, (2, 0)), (6 + 9 + 1,))

    def test_no_place(self):
        for place in ((1,), (0, 2), (-1,), (0, -1), (True,), (), (0, 0, 0), [0], 0, None, "0", {}, LESS, nested(tuple, 40)):
            with self.subTest(place=repr(place)), self.assertRaises(NoPlace):
                done_input(LESS, place)
        for thing in odd_things():
            with self.subTest(thing=repr(thing)), self.assertRaises(NoPlace):
                done_input(LESS, thing)
        with self.assertRaises(NoPlace):
            done_input(Program(("x",), ("w",), tuple(divided("x", 10))), (99,))


class TestIdleAndTrimmed(unittest.TestCase):
    def test_drawn_programs_against_leaving_out_by_hand(self):
        chance = random.Random(112)
        for _ in range(250):
            program = drawn_program(chance)
            kept = (program.given, program.told, program.block)
            found = outcome(idle, program)
            self.assertEqual(found, outcome(idle_by_hand, program), kept)
            left = outcome(trimmed, program)
            self.assertEqual(left, outcome(trimmed_by_hand, program), kept)
            self.assertEqual((program.given, program.told, program.block), kept)
            if left != 1000:
                self.assertEqual(Program(left.given, left.told, left.block), left)
                self.assertTrue(alike(program, left))
            if found != 1000:
                self.assertIsNot(idle(program), found)

    def test_known_by_hand(self):
        padded = Program(("x",), ("y",), (("zero", "y"), LESS.block[0], ("copy", "q", "x"), ("round", "q", (("more", "p"),)),
                                          ("zero", "x")))
        self.assertEqual(idle(padded), [(0,), (2,), (3,), (3, 0), (4,)])
        self.assertEqual(trimmed(padded), LESS)
        for program in (LESS, HALF, SUM):
            self.assertEqual(idle(program), [])
            self.assertEqual(trimmed(program), program)
        # Each of two alone can be left out, but not both: the last one goes.
        twice = Program((), ("y",), (("more", "y"), ("copy", "a", "y"), ("copy", "b", "y"), ("zero", "y"),
                                     ("round", "a", (("zero", "y"), ("more", "y"))),
                                     ("round", "b", (("zero", "y"), ("more", "y")))))
        self.assertEqual(idle(twice), [(1,), (2,), (3,), (4,), (4, 0), (4, 1), (5,)])
        self.assertEqual(trimmed(twice), Program((), ("y",), (("more", "y"), ("copy", "a", "y"), ("zero", "y"),
                                                              ("round", "a", (("more", "y"),)))))
        self.assertEqual(trimmed(Program(("x",), ("x",), (("round", "x", (("copy", "x", "x"),)), ("copy", "x", "x")))),
                         Program(("x",), ("x",), ()))

    def test_a_round_goes_behind_its_deeds(self):
        """The deeds of a round are asked for ahead of the round, and the last one of them first."""
        program = Program(("x",), ("y",), (("round", "x", (("more", "y"), ("zero", "y"))),))
        self.assertEqual(idle(program), [(0,), (0, 0)])
        self.assertEqual(trimmed(program), Program(("x",), ("y",), ()))
        stuck = Program(("x",), ("y", "z"), (("round", "x", (("zero", "y"), ("more", "y"), ("copy", "z", "y"),
                                                             ("zero", "y"))),))
        self.assertEqual(idle(stuck), [(0, 0)])
        self.assertEqual(trimmed(stuck).block, (("round", "x", (("more", "y"), ("copy", "z", "y"), ("zero", "y"))),))

    def test_names_and_results_stay(self):
        program = Program(("a", "b"), ("a", "c"), (("copy", "d", "b"), ("more", "d"), ("zero", "c"), ("more", "a")))
        left = trimmed(program)
        self.assertEqual(left, Program(("a", "b"), ("a", "c"), (("more", "a"),)))
        self.assertEqual((names(left), results(left, (4, 5))), (("a", "b", "c"), (5, 0)))


class TestTooMany(unittest.TestCase):
    def assert_too_many(self, call, *arguments):
        with self.assertRaises(TooMany) as caught:
            call(*arguments)
        self.assertEqual(caught.exception.most, 1000)

    def test_the_program_itself(self):
        great = Program(("x",), ("w",), tuple(divided("x", 10)))
        for call in (never, idle, trimmed):
            self.assert_too_many(call, great)
        for place in ((0,), (1, 0), places(great)[-1]):
            self.assert_too_many(done_input, great, place)
        # Whatever is forgotten in the end counts, too.
        self.assert_too_many(never, Program(("x",), ("q",), (*divided("x", 10), ("zero", "w"))))
        self.assert_too_many(trimmed, Program(("x",), ("q",), (*divided("x", 10), ("zero", "w"))))

    def test_what_is_left(self):
        self.assertEqual(len(table_of(HALVED).rows), 512)
        self.assertEqual(never(HALVED), [])
        self.assertEqual(never(TIGHT), [])
        self.assertEqual(done_input(TIGHT, places(TIGHT)[-2]), (0, 0))
        self.assertEqual(outcome(idle_by_hand, TIGHT), 1000)
        self.assert_too_many(idle, TIGHT)
        self.assertEqual(outcome(trimmed, TIGHT), outcome(trimmed_by_hand, TIGHT))


if __name__ == "__main__":
    unittest.main()
