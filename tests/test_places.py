"""1.2: names and places, and programs with statements left out, put in and names changed."""

import unittest

from flatrounds.errors import BadProgram, NoNames, NoPlace, NoStatement, RoundError
from flatrounds.programs import (
    Program, left_out, names, of_any_size, places, put_in, renamed, statement_at)
from oddthings import LESS, odd_things

A, B, C, D = ("zero", "a"), ("copy", "c", "b"), ("more", "x"), ("more", "d")
BLOCK = (A, ("round", "n", (B, C)), ("round", "m", ()), D)
PLAIN = Program(("x", "q"), ("y", "a"), BLOCK)
EMPTY = Program((), ("y",), ())
NO_PLACES = (
    (4,), (-1,), (10 ** 40,), (0, 0), (3, 0), (1, 2), (1, -1), (-1, 0), (2, 0), (4, 0), (1, 0, 0), (), (True,),
    (False,), (1, True), (1, False), (True, 0), (None,), (1, None), ("0",), 0, 1, [0], [1, 0], "0", None, {}, (1.5,),
    ((0,),), ([],), ({}, 0), range(1), LESS, (LESS,), (1, LESS), b"\x00")
NO_STATEMENTS = (
    None, (), ("zero",), ("zero", "X"), ["zero", "a"], ("round", "x"), ("round", "x", []), ("round", "x", (None,)),
    ("round", "x", (A, ("round", "x", ()))), ("go", 1), 0, "zero", {}, [], LESS, ("more", LESS), ("round", "X", ()))


def assert_same(case, program, given, told, block):
    case.assertIs(program.__class__, Program)
    case.assertEqual((program.given, program.told, program.block), (given, told, block))


class TestNames(unittest.TestCase):
    def test_all_names_ascending(self):
        self.assertEqual(names(PLAIN), ("a", "b", "c", "d", "m", "n", "q", "x", "y"))
        self.assertEqual(names(LESS), ("x", "y", "z"))
        self.assertEqual(names(EMPTY), ("y",))
        self.assertEqual(names(Program(("b", "a"), ("b", "aa"), ())), ("a", "aa", "b"))
        self.assertEqual(names(Program((), ("y",), (("round", "k", ()),))), ("k", "y"))
        self.assertEqual(names(Program((), ("y",), (("copy", "zero", "copy"),))), ("copy", "y", "zero"))
        self.assertIs(names(PLAIN).__class__, tuple)


class TestPlaces(unittest.TestCase):
    def test_all_places_ascending(self):
        self.assertEqual(places(PLAIN), [(0,), (1,), (1, 0), (1, 1), (2,), (3,)])
        self.assertEqual(places(EMPTY), [])
        self.assertEqual(places(LESS), [(0,), (0, 0), (0, 1)])
        many = Program((), ("y",), (("round", "x", (C,) * 12),) * 11)
        self.assertEqual(places(many), sorted(places(many)))
        self.assertEqual(len(places(many)), 143)

    def test_each_list_is_new(self):
        found = places(PLAIN)
        found.append(None)
        self.assertEqual(len(places(PLAIN)), 6)

    def test_statement_at(self):
        for place, statement in (((0,), A), ((1,), BLOCK[1]), ((1, 0), B), ((1, 1), C), ((2,), ("round", "m", ())),
                                 ((3,), D)):
            self.assertEqual(statement_at(PLAIN, place), statement)

    def test_statement_at_no_place(self):
        for place in NO_PLACES:
            with self.subTest(place=repr(place)), self.assertRaises(NoPlace):
                statement_at(PLAIN, place)
        for place in ((0,), (0, 0)):
            with self.assertRaises(NoPlace):
                statement_at(EMPTY, place)

    def test_left_out(self):
        for place, block in (((0,), BLOCK[1:]), ((1,), (A, *BLOCK[2:])), ((1, 0), (A, ("round", "n", (C,)), *BLOCK[2:])),
                             ((1, 1), (A, ("round", "n", (B,)), *BLOCK[2:])), ((2,), (*BLOCK[:2], D)),
                             ((3,), BLOCK[:3])):
            assert_same(self, left_out(PLAIN, place), ("x", "q"), ("y", "a"), block)
        assert_same(self, PLAIN, ("x", "q"), ("y", "a"), BLOCK)
        one = Program((), ("y",), (("round", "x", (C,)),))
        self.assertEqual(left_out(one, (0, 0)), Program((), ("y",), (("round", "x", ()),)))
        self.assertEqual(left_out(one, (0,)), Program((), ("y",), ()))

    def test_left_out_no_place(self):
        for place in NO_PLACES:
            with self.subTest(place=repr(place)), self.assertRaises(NoPlace):
                left_out(PLAIN, place)
        with self.assertRaises(NoPlace):
            left_out(EMPTY, (0,))

    def test_any_object_is_judged_as_a_place(self):
        for thing in odd_things():
            for call in (lambda: statement_at(LESS, thing), lambda: left_out(LESS, thing),
                         lambda: put_in(EMPTY, thing, A), lambda: statement_at(LESS, (0, thing)),
                         lambda: put_in(LESS, (thing,), A)):
                with self.subTest(thing=repr(thing)), self.assertRaises(NoPlace):
                    call()


class TestPutIn(unittest.TestCase):
    def test_ahead_of_each_place(self):
        new = ("copy", "new", "a")
        for place, block in (
                ((0,), (new, *BLOCK)), ((1,), (A, new, *BLOCK[1:])), ((3,), (*BLOCK[:3], new, D)),
                ((4,), (*BLOCK, new)), ((1, 0), (A, ("round", "n", (new, B, C)), *BLOCK[2:])),
                ((1, 1), (A, ("round", "n", (B, new, C)), *BLOCK[2:])),
                ((1, 2), (A, ("round", "n", (B, C, new)), *BLOCK[2:])),
                ((2, 0), (*BLOCK[:2], ("round", "m", (new,)), D))):
            assert_same(self, put_in(PLAIN, place, new), ("x", "q"), ("y", "a"), block)
        assert_same(self, PLAIN, ("x", "q"), ("y", "a"), BLOCK)
        self.assertEqual(put_in(EMPTY, (0,), new), Program((), ("y",), (new,)))

    def test_rounds_ahead_of_statements(self):
        for new in (("round", "k", ()), ("round", "k", (A, B))):
            self.assertEqual(put_in(PLAIN, (1,), new).block, (A, new, *BLOCK[1:]))
            self.assertEqual(put_in(PLAIN, (4,), new).block, (*BLOCK, new))

    def test_left_out_again(self):
        for place in [(4,), (1, 2), (2, 0), *places(PLAIN)]:
            self.assertEqual(left_out(put_in(PLAIN, place, A), place), PLAIN)
        for place in places(PLAIN):
            self.assertEqual(put_in(left_out(PLAIN, place), place, statement_at(PLAIN, place)), PLAIN)

    def test_no_place(self):
        for place in NO_PLACES + ((5,), (1, 3), (2, 1), (4, 0)):
            if place in ((4,), (1, 2), (2, 0)):
                continue
            for statement in (A, None):
                with self.subTest(place=repr(place)), self.assertRaises(NoPlace):
                    put_in(PLAIN, place, statement)
        for place in ((1,), (0, 0), (-1,)):
            with self.assertRaises(NoPlace):
                put_in(EMPTY, place, A)

    def test_no_statement(self):
        for place in ((0,), (4,), (1, 0), (1, 2), (2, 0)):
            for statement in NO_STATEMENTS:
                with self.subTest(statement=repr(statement)), self.assertRaises(NoStatement):
                    put_in(PLAIN, place, statement)
        for place in ((1, 0), (1, 2), (2, 0)):
            for statement in (("round", "x", ()), ("round", "x", (A,))):
                with self.assertRaises(NoStatement):
                    put_in(PLAIN, place, statement)

    def test_any_object_is_judged_as_a_statement(self):
        for thing in odd_things():
            for place in ((0,), (0, 0)):
                for statement in (thing, ("round", "x", thing), ("zero", thing), ("round", "x", (thing,))):
                    try:
                        put_in(LESS, place, statement)
                    except NoStatement:
                        pass

    def test_size(self):
        full = Program((), ("y",), (("round", "x", (C,) * 2499),) + (C,) * 2499)
        most = put_in(full, (0, 0), C)
        self.assertEqual(len(most.block[0][2]), 2500)
        self.assertEqual(put_in(full, (2500,), ("round", "x", ())).block[2500], ("round", "x", ()))
        for program, place, statement in (
                (most, (0,), C), (most, (2500,), C), (most, (0, 0), C), (most, (0, 2500), C),
                (full, (0,), ("round", "x", (C,))), (most, (0,), ("round", "x", ()))):
            with self.assertRaises(BadProgram) as caught:
                put_in(program, place, statement)
            self.assertEqual(caught.exception.part, "size")
        for place, statement, error in (((2501,), None, NoPlace), ((0,), None, NoStatement),
                                        ((0, 0), ("round", "x", ()), NoStatement)):
            with self.assertRaises(error):
                put_in(most, place, statement)


class TestRenamed(unittest.TestCase):
    def test_all_names_are_new(self):
        table = {"a": "b", "b": "a", "c": "cc", "d": "abcdefgh", "m": "n", "n": "m", "q": "zero", "x": "x", "y": "q"}
        passed = dict(table)
        new = renamed(PLAIN, table)
        assert_same(self, new, ("x", "zero"), ("q", "b"), (
            ("zero", "b"), ("round", "m", (("copy", "cc", "a"), ("more", "x"))), ("round", "n", ()),
            ("more", "abcdefgh")))
        self.assertEqual(table, passed)
        assert_same(self, PLAIN, ("x", "q"), ("y", "a"), BLOCK)
        self.assertEqual(renamed(new, {there: here for here, there in table.items()}), PLAIN)
        self.assertEqual(renamed(EMPTY, {"y": "z"}), Program((), ("z",), ()))
        table["x"] = "other"
        self.assertEqual(new.given, ("x", "zero"))

    def test_no_names(self):
        right = {"x": "a", "y": "b", "z": "c"}
        self.assertEqual(renamed(LESS, right).told, ("b",))
        for wrong in ({}, {"x": "a", "y": "b"}, {**right, "w": "d"}, {"x": "a", "y": "b", "w": "c"},
                      {**right, "z": "a"}, {**right, "z": "C"}, {**right, "z": ""}, {**right, "z": "abcdefghi"},
                      {**right, "z": None}, {**right, "z": 1}, {**right, "z": []}, {**right, "z": ("c",)},
                      {**right, "z": b"c"}, {**right, "z": LESS}, {"x": "a", "y": "b", 1: "c"}, {**right, 1: "d"},
                      {"x": "a", "y": "b", ("z",): "c"}, {"x": "a", "y": "b", None: "c"}, {b"x": "a", "y": "b", "z": "c"},
                      ("x", "y", "z"), ["x", "y", "z"], [("x", "a"), ("y", "b"), ("z", "c")], None, "xyz", 3,
                      right.keys(), right.items(), LESS):
            with self.subTest(wrong=repr(wrong)), self.assertRaises(NoNames):
                renamed(LESS, wrong)

    def test_any_object_is_judged(self):
        for thing in odd_things():
            with self.subTest(thing=repr(thing)), self.assertRaises(NoNames):
                renamed(LESS, thing)
            with self.subTest(thing=repr(thing)):
                try:
                    renamed(LESS, {"x": "a", "y": "b", "z": thing})
                except NoNames:
                    pass


class TestGreaterPrograms(unittest.TestCase):
    """0.5: what is returned may be greater than what is let where a Program is constructed."""

    def test_greater_programs_are_worked_on(self):
        big = of_any_size((), ("y",), (("round", "x", (C,) * 6000),) + (A,) * 6000)
        self.assertEqual(len(places(big)), 12001)
        self.assertEqual(names(big), ("a", "x", "y"))
        self.assertEqual(statement_at(big, (0, 5999)), C)
        self.assertEqual(len(left_out(big, (0, 3)).block[0][2]), 5999)
        self.assertEqual(len(left_out(big, (7,)).block), 6000)
        self.assertEqual(renamed(big, {"a": "x", "x": "y", "y": "a"}).block[6000], ("zero", "x"))
        with self.assertRaises(BadProgram) as caught:
            put_in(big, (0,), A)
        self.assertEqual(caught.exception.part, "size")

    def test_a_call_that_raises_changes_nothing(self):
        table = {"x": "a", "y": "b", "z": "a"}
        for call in (lambda: put_in(LESS, (0, 0), None), lambda: left_out(LESS, (9,)), lambda: renamed(LESS, table)):
            with self.assertRaises(RoundError):
                call()
        self.assertEqual(table, {"x": "a", "y": "b", "z": "a"})
        assert_same(self, LESS, ("x",), ("y",), (("round", "x", (("copy", "y", "z"), ("more", "z"))),))


if __name__ == "__main__":
    unittest.main()
