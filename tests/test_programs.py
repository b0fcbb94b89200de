"""1.1: what a program is, what is wrong first of what is none, and equality."""

import unittest

from flatrounds.errors import BadProgram, NoPlace
from flatrounds.programs import Program
from oddthings import LESS, nested, odder_things, odd_things

HALF_BLOCK = (("round", "x", (("copy", "t", "h"), ("copy", "h", "g"), ("copy", "g", "t"), ("more", "g"))),)
DEED = ("more", "x")
RIGHT_BLOCKS = (
    (), (DEED,), (("zero", "a"), ("copy", "a", "a"), ("copy", "b", "a"), ("more", "zero")), (("round", "x", ()),),
    (("round", "round", (("zero", "copy"), DEED)), DEED, ("round", "abcdefgh", (DEED,))), HALF_BLOCK)
WRONG_DEEDS = (
    ("zero",), ("zero", "x", "y"), ("copy", "x"), ("copy", "x", "y", "z"), ("more",), ("more", "x", "y"), ("add", "x"),
    ("ZERO", "x"), ("Zero", "x"), ("zero ", "x"), (b"zero", "x"), ("zero", "X"), ("zero", ""), ("zero", "abcdefghi"),
    ("zero", "x1"), ("zero", b"x"), ("zero", None), ("zero", 1), ("zero", ("x",)), ("zero", ["x"]), ("copy", "x", "Y"),
    ("copy", "X", "y"), ("copy", [], "y"), ("more", {}), ("more", True), (None, "x"), ([], "x"), ({}, "x"), (), (1,),
    (0, "x"), (("zero", "x"),), ["zero", "x"], ["more", "x"], "zero", "zx", None, True, 0, {}, {"zero": "x"},
    b"zx", range(2), ("more", LESS), LESS, ("copy", "x", NoPlace()))
WRONG_ROUNDS = (
    ("round",), ("round", "x"), ("round", "x", (), ()), ("round", "x", []), ("round", "x", None), ("round", "x", "y"),
    ("round", "x", {}), ("round", "x", [DEED]), ("round", "X", ()), ("round", "", ()), ("round", None, ()),
    ("round", b"x", ()), ("round", ("x",), ()), ("round", [], ()), ("Round", "x", ()), ("rounds", "x", ()),
    (b"round", "x", ()), (None, "x", ()), ([], "x", ()), ["round", "x", ()], ("round", (), "x"),
    ("round", "X", (None,)), ("round", "x", range(0)), ("round", "x", LESS), ("round", LESS, ()),
    ("round", "abcdefghi", (DEED,)), ("round", 1, (DEED,)))


class TestProgram(unittest.TestCase):
    def assert_bad(self, part, given, told, block):
        with self.assertRaises(BadProgram) as caught:
            Program(given, told, block)
        self.assertEqual(caught.exception.part, part)
        self.assertEqual([kind.__class__ for kind in part], [kind.__class__ for kind in caught.exception.part])

    def test_right_programs_keep_what_they_were_made_of(self):
        for given in ((), ("x",), ("x", "y"), ("abcdefgh", "a")):
            for told in (("x",), ("y", "x"), ("a", "b", "c"), ("a", "z", "x", "y")):
                for block in RIGHT_BLOCKS:
                    program = Program(given, told, block)
                    self.assertEqual((program.given, program.told, program.block), (given, told, block))
                    for kept in (program.given, program.told, program.block):
                        self.assertIs(kept.__class__, tuple)

    def test_wrong_given(self):
        for given in (("x", "y", "z"), ("x", "x"), ["x"], "x", None, ("X",), ("x", ""), ("abcdefghi",), ("x", 1),
                      (b"x",), (True,), (("x",),), ([],), {"x": 1}, {}, range(0), LESS, (LESS,), 0, False, b""):
            self.assert_bad("given", given, ("x",), ())
            self.assert_bad("given", given, None, None)

    def test_wrong_told(self):
        for told in ((), ("a", "b", "c", "d", "e"), ("x", "x"), ("a", "b", "a"), ["x"], "x", None, ("X",), ("x", ""),
                     ("abcdefghi",), ("x", 1), (b"x",), (True,), (("x",),), ([],), {"x": 1}, LESS, (LESS,), 0, b""):
            self.assert_bad("told", ("x",), told, ())
            self.assert_bad("told", (), told, None)

    def test_wrong_block(self):
        for block in ([], [DEED], None, "", "block", {}, {0: DEED}, 0, False, True, b"", range(0), LESS, iter(())):
            self.assert_bad("block", (), ("x",), block)

    def test_first_wrong_item_is_told(self):
        for wrong in WRONG_DEEDS + WRONG_ROUNDS:
            with self.subTest(wrong=repr(wrong)):
                self.assert_bad((0,), (), ("x",), (wrong,))
                self.assert_bad((2,), (), ("x",), (DEED, ("round", "x", (DEED,)), wrong, DEED, None))
                self.assert_bad((1,), (), ("x",), (DEED, wrong, ("round", "x", (None,))))

    def test_first_wrong_deed_of_a_round_is_told(self):
        for wrong in WRONG_DEEDS + WRONG_ROUNDS + (("round", "x", ()), ("round", "x", (DEED,))):
            with self.subTest(wrong=repr(wrong)):
                self.assert_bad((0, 0), (), ("x",), (("round", "x", (wrong,)),))
                self.assert_bad((1, 2), (), ("x",), (DEED, ("round", "x", (DEED, DEED, wrong, DEED)), None))
                self.assert_bad((0, 1), (), ("x",), (("round", "x", (DEED, wrong, None)), wrong))

    def test_a_deed_in_the_place_of_deeds(self):
        self.assert_bad((0, 0), (), ("x",), (("round", "x", ("zero", "x")),))

    def test_any_object_is_judged(self):
        for thing in odd_things():
            for given, told, block in ((thing, ("x",), ()), ((), thing, ()), ((), ("x",), thing),
                                       ((), ("x",), (thing,)), ((), ("x",), (("round", "x", thing),)),
                                       ((), ("x",), (("round", "x", (thing,)),)),
                                       ((), ("x",), (("zero", thing),)), ((), ("x",), (("copy", "x", thing),)),
                                       ((), ("x",), ((thing, "x"),)), ((), ("x",), (("round", thing, ()),)),
                                       ((thing,), ("x",), ()), ((), (thing,), ())):
                try:
                    Program(given, told, block)
                except BadProgram:
                    pass

    def test_things_nested_deep(self):
        for kind in (tuple, list, dict):
            deep = nested(kind, 40)
            self.assert_bad("given", deep, ("x",), ())
            self.assert_bad("told", (), (deep, deep), ())
            self.assert_bad((0,), (), ("x",), (deep,))
            self.assert_bad((0, 0), (), ("x",), (("round", "x", (nested(kind, 37),)),))

    def test_order_of_the_parts(self):
        self.assert_bad("given", None, None, None)
        self.assert_bad("told", (), None, None)
        self.assert_bad("block", (), ("x",), None)
        self.assert_bad((5000,), (), ("x",), (DEED,) * 5000 + (None,))
        self.assert_bad((0, 5001), (), ("x",), (("round", "x", (DEED,) * 5001 + (None,)),))

    def test_size(self):
        whole = ("round", "x", (DEED,) * 4999)
        for block in ((DEED,) * 5000, (whole,), (("round", "x", (DEED,)),) * 2500, (("round", "x", ()),) * 5000,
                      (DEED, DEED, ("round", "x", (DEED,) * 4997))):
            self.assertEqual(Program((), ("x",), block).block, block)
            self.assert_bad("size", (), ("x",), block + (DEED,))
            self.assert_bad("size", (), ("x",), (("round", "x", ()),) + block)
        self.assert_bad("size", (), ("x",), (("round", "x", (DEED,) * 5000),))

    def test_equality(self):
        args = (("x",), ("y",), (("round", "x", (("copy", "y", "z"), ("more", "z"))),))
        one = Program(*args)
        self.assertTrue(one == Program(*args))
        self.assertFalse(one != Program(*args))
        for other in (Program((), *args[1:]), Program(("z",), *args[1:]), Program(args[0], ("y", "z"), args[2]),
                      Program(args[0], args[1], ()), Program(args[0], args[1], args[2] * 2)):
            self.assertFalse(one == other)
            self.assertTrue(one != other)
        for thing in odder_things():
            if thing is not LESS:
                self.assertIs(one == thing, False)
                self.assertIs(one != thing, True)
                self.assertIs(thing == one, False)
        self.assertFalse(one == args)

    def test_equality_asks_no_object_of_another_class(self):
        class Agreeing:
            given, told, block = ("x",), ("y",), ()

            def __eq__(self, other):
                return True

        self.assertFalse(Program(("x",), ("y",), ()) == Agreeing())
        self.assertTrue(Program(("x",), ("y",), ()) != Agreeing())


if __name__ == "__main__":
    unittest.main()
