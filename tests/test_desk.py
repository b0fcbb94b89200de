"""14.1: a desk, told by lines."""

import random
import unittest

from drawn import DOUBLE, HALF, SUM, divided, drawn_program
from flatrounds.desk import Desk
from flatrounds.errors import (
    BadProgram, BadText, NoInput, NoLine, NothingDone, OtherShape, RoundError, TooMany, Unknown)
from flatrounds.likeness import alike, unlike_input
from flatrounds.programs import Program
from flatrounds.runs import deeds, results
from flatrounds.tabling import table_of
from flatrounds.texts import program_text, table_text
from flatrounds.trimming import trimmed
from oddthings import LESS, odd_things

GREAT = 10 ** 40 - 1
NONE = Program((), ("a", "b"), (("more", "b"),))
NO_LINES = (
    "", " ", "undo ", " undo", "undo x", "Undo", "names ", "names x", "name", "drop", "drop ", "drop  a", "drop a ",
    "drop a b", "drop A", "drop 0",
    "drop abcdefghi", "show", "show ", "show a b", "show a ", "show  a", "run", "run a", "run a ", "run a  1", "run a 1 ",
    "run a 1 2", "run a 01", "run a 00", "run a -1",
    "run a +1", "run a 1,", "run a ,1", "run a 1,,2", "run a 1, 2", "run a x", "run a --", "run a -,1", "run a 1.5",
    "run a 1_0", "run a " + "1" * 41, "run a 1," + "1" * 41,
    "run A 1", "run 1 a", "deeds", "deeds a", "deeds a 01", "deeds a 1 2", "deeds a 1,", "alike", "alike a", "alike a ",
    "alike a b ", "alike a b c", "alike a  b", "alike a B",
    "alike a 1", "unlike", "unlike a", "unlike a b c", "unlike a -", "table", "table a b", "table a ", "trim", "trim a b",
    "trim A", "program", "program ", "program a",
    "program  a given|told y", "program A given|told y", "program abcdefghi given|told y", "program 1 given|told y",
    " program a given|told y", "Program a given|told y",
    "programs", "undoable", "tell undo", "-", "a", "undo\n", "\nundo", "names\n", "program a given\ntold y",
    "program a given|told y\n", "run a 1\n", "undo|undo")


def in_a_line(program):
    return program_text(program).replace("\n", "|")


def as_input(entered):
    return ",".join(map(str, entered)) if entered else "-"


class DeskCase(unittest.TestCase):
    def desk(self, **programs):
        desk = Desk()
        for name, program in programs.items():
            self.assertEqual(desk.tell(f"program {name} {in_a_line(program)}"), "ok")
        return desk

    def state(self, desk):
        kept = desk.tell("names")
        return (kept, [] if kept == "none" else [desk.tell("show " + name) for name in kept.split(" ")], desk.undoable())

    def assert_refused(self, desk, line, error, /, **fields):
        ahead = self.state(desk)
        with self.assertRaises(error) as caught:
            desk.tell(line)
        self.assertIs(caught.exception.__class__, error)
        self.assertEqual(vars(caught.exception), fields, line)
        self.assertEqual(self.state(desk), ahead)


class TestKeeping(DeskCase):
    def test_kept_dropped_and_taken_back(self):
        desk = Desk()
        self.assertEqual((desk.undoable(), desk.tell("names")), (0, "none"))
        self.assert_refused(desk, "undo", NothingDone)
        self.assertEqual(desk.tell("program half given x|told h|round x|t = h|h = g|g = t|g + 1|end"), "ok")
        self.assertEqual(desk.tell("show half"), "given x|told h|round x|t = h|h = g|g = t|g + 1|end")
        self.assertEqual(desk.tell("program b given|told y"), "ok")
        self.assertEqual(desk.tell("program a given|told y|y = 0"), "ok")
        self.assertEqual((desk.tell("names"), desk.undoable()), ("a b half", 3))
        self.assertEqual(desk.tell("program b given b|told b|b + 1"), "ok")
        self.assertEqual((desk.tell("show b"), desk.tell("run b 41")), ("given b|told b|b + 1", "42"))
        self.assertEqual(desk.tell("drop half"), "ok")
        self.assertEqual((desk.tell("names"), desk.undoable()), ("a b", 5))
        self.assert_refused(desk, "show half", Unknown, name="half")
        self.assertEqual(desk.tell("undo"), "ok")
        self.assertEqual((desk.tell("names"), desk.tell("run half 7"), desk.undoable()), ("a b half", "3", 4))
        self.assertEqual(desk.tell("undo"), "ok")
        self.assertEqual((desk.tell("names"), desk.tell("show b"), desk.undoable()), ("a b half", "given|told y", 3))
        for left in ("b half", "half", "none"):
            self.assertEqual(desk.tell("undo"), "ok")
            self.assertEqual(desk.tell("names"), left)
        self.assertEqual(desk.undoable(), 0)
        self.assert_refused(desk, "undo", NothingDone)

    def test_taking_back_is_not_taken_back(self):
        desk = self.desk(a=LESS)
        self.assertEqual([desk.tell(line) for line in ("drop a", "undo", "undo")], ["ok"] * 3)
        self.assertEqual(self.state(desk), ("none", [], 0))
        desk = self.desk(a=LESS, b=HALF)
        self.assertEqual([desk.tell(line) for line in ("undo", "program c given|told y", "undo", "undo")], ["ok"] * 4)
        self.assertEqual(self.state(desk), ("none", [], 0))

    def test_the_same_kept_again_counts(self):
        desk = self.desk(a=LESS)
        desk.tell("program a " + in_a_line(LESS))
        self.assertEqual(desk.undoable(), 2)
        desk.tell("undo")
        self.assertEqual(desk.tell("show a"), in_a_line(LESS))
        # What is kept under the word for nothing is a name like others.
        self.assertEqual(self.desk(none=LESS, names=HALF, undo=SUM, program=NONE).tell("names"), "names none program undo")

    def test_drawn_lines_against_lists_of_states(self):
        chance = random.Random(151)
        desk, kept, past = Desk(), {}, []
        for _ in range(1500):
            name = chance.choice(("a", "b", "ab", "c"))
            way = chance.randrange(4)
            if way == 0:
                text = chance.choice((in_a_line(LESS), in_a_line(NONE), in_a_line(drawn_program(chance))))
                past.append(dict(kept))
                kept[name] = text
                self.assertEqual(desk.tell(f"program {name} {text}"), "ok")
            elif way == 1 and name in kept:
                past.append(dict(kept))
                del kept[name]
                self.assertEqual(desk.tell("drop " + name), "ok")
            elif way == 1:
                self.assert_refused(desk, "drop " + name, Unknown, name=name)
            elif way == 2 and past:
                kept = past.pop()
                self.assertEqual(desk.tell("undo"), "ok")
            elif way == 2:
                self.assert_refused(desk, "undo", NothingDone)
            elif name in kept:
                self.assertEqual(desk.tell("show " + name), kept[name])
            self.assertEqual(self.state(desk), (" ".join(sorted(kept)) or "none", [kept[name] for name in sorted(kept)],
                                                len(past)))

    def test_desks_are_apart(self):
        one, other = self.desk(a=LESS), self.desk()
        self.assertEqual((one.tell("names"), other.tell("names"), other.undoable()), ("a", "none", 0))
        self.assertFalse(one == other)
        self.assertTrue(one == one)
        for thing in odd_things():
            self.assertFalse(one == thing)


class TestAsking(DeskCase):
    def test_known_by_hand(self):
        desk = self.desk(half=HALF, less=LESS, sum=SUM, none=NONE)
        for line, told in (
                ("run half 7", "3"), ("run half 1" + "0" * 30, "5" + "0" * 29), ("run less 0", "0"), ("run sum 3,4", "7"),
                ("run none -", "0 1"),
                ("run sum " + "9" * 40 + ",1", "1" + "0" * 40), ("deeds half 3", "13"), ("deeds none -", "1"),
                ("alike half less", "no"), ("alike half half", "yes"),
                ("unlike half less", "3"), ("unlike less less", "none"), ("table half", "bounds 0|measures 2|0 1|0 1"),
                ("table none", "bounds|measures|0, 1"),
                ("table less", "bounds 1|measures 1|0 0|0 1"), ("trim half", in_a_line(HALF)),
                ("show none", "given|told a b|b + 1")):
            self.assertEqual(desk.tell(line), told)
        desk.tell("program other given|told a b|a + 1")
        self.assertEqual((desk.tell("unlike none other"), desk.tell("alike none other")), ("-", "no"))
        desk.tell("program two given x y|told x|round x|end")
        self.assertEqual(desk.tell("unlike sum two"), "0,1")
        desk.tell("program two given x y|told x|zero = 0|round y|x + 1|end")
        self.assertEqual((desk.tell("alike sum two"), desk.tell("trim two")), ("yes", "given x y|told x|round y|x + 1|end"))

    def test_drawn_programs_against_the_functions(self):
        chance = random.Random(152)
        for _ in range(120):
            many = chance.randint(0, 2)
            program, other = drawn_program(chance, many), drawn_program(chance, many)
            desk = self.desk(one=program, other=other)
            entered = tuple(chance.choice((0, 1, 7, GREAT)) for _ in range(many))
            self.assertEqual(desk.tell("run one " + as_input(entered)), " ".join(map(str, results(program, entered))))
            self.assertEqual(desk.tell("deeds one " + as_input(entered)), str(deeds(program, entered)))
            self.assertEqual(desk.tell("table one"), table_text(table_of(program)).replace("\n", "|"))
            self.assertEqual(desk.tell("show one"), in_a_line(program))
            self.assertEqual(desk.undoable(), 2)
            try:
                left = trimmed(program)
            except TooMany:
                continue
            self.assertEqual(desk.tell("trim one"), in_a_line(left))
            if len(program.told) != len(other.told):
                for word in ("alike", "unlike"):
                    self.assert_refused(desk, word + " one other", OtherShape)
                continue
            self.assertEqual(desk.tell("alike one other"), "yes" if alike(program, other) else "no")
            found = unlike_input(program, other)
            self.assertEqual(desk.tell("unlike one other"), "none" if found is None else as_input(found))


class TestRefused(DeskCase):
    def test_no_line(self):
        for desk in (self.desk(), self.desk(a=LESS, b=HALF)):
            for line in NO_LINES:
                self.assert_refused(desk, line, NoLine)
            for thing in odd_things() + [b"undo", ["undo"], ("undo",)]:
                self.assert_refused(desk, thing, NoLine)

    def test_texts(self):
        desk = self.desk(a=LESS)
        for text, line in (("", 1), ("|", 1), ("given", 2), ("given x|told y|", 3), ("given x|told y |x = 0", 2),
                           (" given|told y", 1), ("given x|told y|end", 3),
                           ("given x|told y|round x", 4), ("given x||told y", 2), ("given x told y", 2),
                           ("given x y z|told|x", 3)):
            self.assert_refused(desk, "program b " + text, BadText, line=line)
            self.assert_refused(desk, "program a " + text, BadText, line=line)
        for text, part in (("given x y z|told y", "given"), ("given|told", "told"), ("given x|told y y", "told"),
                           ("given|told y" + "|y + 1" * 5001, "size")):
            self.assert_refused(desk, "program a " + text, BadProgram, part=part)

    def test_unknown_ahead_of_what_the_functions_raise(self):
        desk = self.desk(a=LESS, b=SUM)
        for line, name in (("drop c", "c"), ("show c", "c"), ("run c 1", "c"), ("run c -", "c"), ("deeds c 1,2,3", "c"),
                           ("alike c d", "c"), ("alike a d", "d"), ("alike d a", "d"),
                           ("unlike d d", "d"), ("unlike b c", "c"), ("table c", "c"), ("trim c", "c")):
            self.assert_refused(desk, line, Unknown, name=name)
        # Nothing is to be taken back, and yet a line with a name that is not kept tells so.
        self.assert_refused(Desk(), "drop undo", Unknown, name="undo")

    def test_what_the_functions_raise(self):
        desk = self.desk(a=LESS, b=SUM, d=DOUBLE, n=NONE, w=Program(("x",), ("w",), tuple(divided("x", 10))))
        for line in ("run a -", "run a 1,2", "run b 1", "run b 1,2,3", "run n 0", "deeds a -", "deeds a 1,2", "deeds n 1"):
            self.assert_refused(desk, line, NoInput)
        for line in ("alike a b", "alike b a", "unlike a n", "unlike n b"):
            self.assert_refused(desk, line, OtherShape)
        for line in ("table w", "trim w", "alike w a", "alike a w", "unlike d w"):
            self.assert_refused(desk, line, TooMany, most=1000)
        self.assertEqual(desk.tell("run w 1" + "0" * 39), str(10 ** 39 // 1024))

    def test_all_errors_are_of_the_package(self):
        chance = random.Random(153)
        desk = self.desk(a=LESS, b=SUM)
        words = ["a", "b", "c", "run", "deeds", "alike", "unlike", "show", "table", "trim", "names", "program", "given",
                 "told|", "1", "1,2", "-", "", "x|y", "\n"]
        for _ in range(2000):
            line = " ".join(chance.choice(words) for _ in range(chance.randint(1, 4)))
            ahead = self.state(desk)
            try:
                self.assertIsInstance(desk.tell(line), str)
            except RoundError:
                pass
            self.assertEqual(self.state(desk), ahead)


if __name__ == "__main__":
    unittest.main()
