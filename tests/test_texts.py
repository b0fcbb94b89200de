"""13.1 and 13.2: texts of programs, tables and codes, and what is read from texts."""

import random
import unittest

from drawn import HALF, drawn_program, drawn_table
from flatrounds.codes import Code, code_of
from flatrounds.errors import BadCode, BadProgram, BadTable, BadText
from flatrounds.making import put_behind, with_clock
from flatrounds.programs import Program
from flatrounds.reading import read_code, read_program, read_table
from flatrounds.tables import Table
from flatrounds.tabling import table_of
from flatrounds.texts import code_text, program_text, table_text
from oddthings import LESS, odd_things

GREAT = 10 ** 40 - 1
HALF_TEXT = "given x\ntold h\nround x\nt = h\nh = g\ng = t\ng + 1\nend"
# Names may be the words that lines begin with.
WORDS = Program(("given", "told"), ("end", "round", "told"), (
    ("zero", "round"), ("copy", "end", "given"), ("round", "round", (("more", "end"), ("copy", "told", "round"))),
    ("round", "end", ())))
WORDS_TEXT = ("given given told\ntold end round told\nround = 0\nend = given\nround round\nend + 1\ntold = round\nend\n"
              "round end\nend")


class TextCase(unittest.TestCase):
    def assert_bad_text(self, read, text, line):
        with self.assertRaises(BadText) as caught:
            read(text)
        self.assertEqual(caught.exception.line, line, text)

    def assert_bad(self, error, read, text, *told):
        with self.assertRaises(error) as caught:
            read(text)
        self.assertEqual(tuple(vars(caught.exception).values()), told, text)

    def assert_no_strings(self, read):
        for thing in odd_things() + [HALF_TEXT.encode(), [HALF_TEXT], (HALF_TEXT,)]:
            if not isinstance(thing, str):
                self.assert_bad_text(read, thing, 0)


class TestProgramTexts(TextCase):
    def test_known_by_hand(self):
        self.assertEqual(program_text(HALF), HALF_TEXT)
        self.assertEqual(program_text(WORDS), WORDS_TEXT)
        self.assertEqual(program_text(Program((), ("y",), ())), "given\ntold y")
        self.assertEqual(program_text(Program(("b", "a"), ("a", "b"), (("more", "c"),))), "given b a\ntold a b\nc + 1")
        for program in (HALF, WORDS, LESS, Program((), ("y",), ())):
            self.assertEqual(read_program(program_text(program)), program)

    def test_drawn_programs(self):
        chance = random.Random(141)
        for _ in range(300):
            program = drawn_program(chance)
            text = program_text(program)
            self.assertEqual(read_program(text), program)
            self.assertEqual(program_text(read_program(text)), text)

    def test_drawn_changes(self):
        """What is read back either has the changed text, or the line that is told is the first wrong one."""
        chance = random.Random(142)
        for _ in range(1500):
            lines = program_text(chance.choice((HALF, WORDS, LESS, drawn_program(chance)))).split("\n")
            at = chance.randrange(len(lines))
            way = chance.randrange(9)
            if way == 0:
                del lines[at]
            elif way == 1:
                lines.insert(at, chance.choice(lines + ["", "end", "round x", "x + 1"]))
            elif way == 2:
                other = chance.randrange(len(lines))
                lines[at], lines[other] = lines[other], lines[at]
            elif way == 3:
                lines += [""] * chance.randint(1, 2)
            elif way == 4:
                k = chance.randint(0, len(lines[at]))
                lines[at] = lines[at][:k] + chance.choice(" x0=+\nA1_-~|") + lines[at][k:]
            elif way == 5 and lines[at]:
                k = chance.randrange(len(lines[at]))
                lines[at] = lines[at][:k] + lines[at][k + 1:]
            else:
                words = lines[at].split(" ")
                words[chance.randrange(len(words))] = chance.choice(("", "x", "0", "1", "=", "+", "end", "round", "given",
                                                                     "told", "abcdefghi", "X"))
                lines[at] = " ".join(words)
            text = "\n".join(lines)
            wrong = wrong_line_by_hand(text.split("\n"))
            if wrong is not None:
                self.assert_bad_text(read_program, text, wrong)
                continue
            try:
                self.assertEqual(program_text(read_program(text)), text)
            except BadProgram as told:
                self.assertIn(told.part, ("given", "told"))

    def test_wrong_lines(self):
        for text, line in (
                ("", 1), ("\n", 1), (" ", 1), ("given", 2), ("given x", 2), ("given\n", 2), ("given \ntold y", 1),
                (" given\ntold y", 1), ("given  x\ntold y", 1),
                ("Given x\ntold y", 1), ("givenx\ntold y", 1), ("given x,y\ntold y", 1), ("given X\ntold y", 1),
                ("given abcdefghi\ntold y", 1), ("given 0\ntold y", 1),
                ("told y\ngiven x", 1), ("told y", 1), ("x = 0", 1), ("given x\ntold y\n", 3), ("given x\ntold y\n\n", 3),
                ("given x\n\ntold y", 2),
                ("given x\ngiven x\ntold y", 2), ("given x\nx = 0\ntold y", 2), ("given x\ntold y \nx = 0", 2),
                ("given x\ntold y\ntold y", 3), ("given x\ntold y\ngiven x", 3),
                ("given x\ntold y\nend", 3), ("given x\ntold y\nround x", 4), ("given x\ntold y\nround x\ny + 1", 5),
                ("given x\ntold y\nround x\nround y\nend\nend", 4),
                ("given x\ntold y\nround x\nend\nend", 5), ("given x\ntold y\nround x\ntold y\nend", 4),
                ("given x\ntold y\nround x\ngiven x", 4), ("given x\ntold y\nround x\n", 4),
                ("given x\ntold y\nround x\nend\n", 5), ("given x\ntold y\nround\nend", 3),
                ("given x\ntold y\nround x y\nend", 3), ("given x\ntold y\nround X\nend", 3),
                ("given x\ntold y\nround 0\nend", 3), ("given x\ntold y\nround x\nend ", 4),
                ("given x\ntold y\nround x\n end", 4), ("given x\ntold y\nround x\nend x", 4),
                ("given x\ntold y\nx = 1", 3), ("given x\ntold y\nx = 00", 3), ("given x\ntold y\nx + 0", 3),
                ("given x\ntold y\nx + y", 3), ("given x\ntold y\nx + 2", 3),
                ("given x\ntold y\nx - 1", 3), ("given x\ntold y\nx =", 3), ("given x\ntold y\nx", 3),
                ("given x\ntold y\nx = ", 3), ("given x\ntold y\nx = y z", 3),
                ("given x\ntold y\nx  = y", 3), ("given x\ntold y\nx=y", 3), ("given x\ntold y\nx == y", 3),
                ("given x\ntold y\n0 = x", 3), ("given x\ntold y\nX = 0", 3),
                ("given x\ntold y\nx = Y", 3), ("given x\ntold y\nx = abcdefghi", 3), ("given x\ntold y\nx = 0\ny + 1 ", 4),
                ("given x\ntold y|x = 0", 2)):
            self.assert_bad_text(read_program, text, line)
        self.assert_no_strings(read_program)

    def test_bad_program_comes_behind_bad_text(self):
        for head, part in (("given x y z\ntold y", "given"), ("given x x\ntold y", "given"),
                           ("given a b c d e\ntold", "given"), ("given x\ntold", "told"),
                           ("given\ntold a b c d e", "told"), ("given\ntold a a", "told")):
            self.assert_bad(BadProgram, read_program, head, part)
            self.assert_bad(BadProgram, read_program, head + "\nx = 0" * 5001, part)
            self.assert_bad_text(read_program, head + "\nx = 0\nend", 4)
            self.assert_bad_text(read_program, head + "\n", 3)
        self.assertEqual(len(read_program("given\ntold y" + "\ny + 1" * 5000).block), 5000)
        self.assert_bad(BadProgram, read_program, "given\ntold y" + "\ny + 1" * 5001, "size")
        rounds = ("\nround y" + "\ny + 1" * 49 + "\nend") * 100
        self.assertEqual(len(read_program("given\ntold y" + rounds).block), 100)
        self.assert_bad(BadProgram, read_program, "given\ntold y" + rounds + "\ny = 0", "size")
        self.assert_bad_text(read_program, "given\ntold y" + "\ny + 1" * 5001 + "\ny", 5004)

    def test_returned_programs(self):
        great = with_clock(Program((), ("y",), (("more", "y"),) * 3000), "c")
        self.assertEqual(program_text(great), "given\ntold y c" + "\nc + 1\ny + 1" * 3000)
        self.assert_bad(BadProgram, read_program, program_text(great), "size")
        both = put_behind(LESS, HALF)
        self.assertEqual(read_program(program_text(both)), both)


def wrong_line_by_hand(lines):
    """The first wrong line, counted from 1, or None, by a reader of its own."""
    def is_name(word):
        return 1 <= len(word) <= 8 and word.isascii() and word.isalpha() and word.islower()

    inside = False
    for at, line in enumerate(lines):
        words = line.split(" ")
        if at < 2:
            right = words[0] == ("given", "told")[at] and all(map(is_name, words[1:]))
        elif len(words) == 3:
            copied = words[1] == "=" and (words[2] == "0" or is_name(words[2]))
            right = is_name(words[0]) and (copied or words[1:] == ["+", "1"])
        elif len(words) == 2:
            right = words[0] == "round" and is_name(words[1]) and not inside
            inside = True
        else:
            right = words == ["end"] and inside
            inside = False
        if not right:
            return at + 1
    return len(lines) + 1 if inside or len(lines) < 2 else None


class TestTableTexts(TextCase):
    def test_known_by_hand(self):
        half = "bounds 0\nmeasures 2\n0 1\n0 1"
        two = "bounds 0 1\nmeasures 1 1\n3 2 0, 0 0 0\n0 12 7, 5 0 1"
        none = "bounds\nmeasures\n4, 5, 6"
        self.assertEqual(table_text(table_of(HALF)), half)
        self.assertEqual(table_text(read_table(two)), two)
        self.assertEqual(read_table(two), Table((0, 1), (1, 1), (((3, (2, 0)), (0, (0, 0))), ((0, (12, 7)), (5, (0, 1))))))
        self.assertEqual(read_table(none), Table((), (), (((4, ()), (5, ()), (6, ())),)))
        self.assertEqual(table_text(read_table(none)), none)
        self.assertEqual(read_table(f"bounds 0\nmeasures 1\n{GREAT} {GREAT}"), Table((0,), (1,), (((GREAT, (GREAT,)),),)))

    def test_drawn_tables(self):
        chance = random.Random(143)
        for _ in range(300):
            table = drawn_table(chance, results=chance.choice((1, 2, 3, 12)), base=chance.choice((3, GREAT)),
                                steps=(0, 1, 20, GREAT))
            text = table_text(table)
            self.assertEqual(read_table(text), table)
            self.assertEqual(table_text(read_table(text)), text)

    def test_wrong_lines(self):
        for text, line in (
                ("", 1), ("bounds", 2), ("bounds 0", 2), ("bounds 0\n", 2), ("measures 1\nbounds 0\n0 0", 1),
                ("bounds \nmeasures\n0", 1), ("bounds 00\nmeasures 1\n0 0", 1),
                ("bounds 01\nmeasures 1\n0 0", 1), ("bounds -1\nmeasures 1\n0 0", 1), ("bounds +1\nmeasures 1\n0 0", 1),
                ("bounds x\nmeasures 1\n0 0", 1), ("bounds 1.0\nmeasures 1\n0 0", 1),
                ("bounds 1_0\nmeasures 1\n0 0", 1), ("bounds  0\nmeasures 1\n0 0", 1), ("bounds 0 \nmeasures 1\n0 0", 1),
                (" bounds 0\nmeasures 1\n0 0", 1), ("bounds 0, 0\nmeasures 1 1\n0 0 0", 1),
                ("bound 0\nmeasures 1\n0 0", 1), ("bounds " + "1" * 41 + "\nmeasures 1", 1), ("bounds 0\nmeasure 1\n0 0", 2),
                ("bounds 0\nmeasures 1 \n0 0", 2), ("bounds 0\n0 0", 2),
                ("bounds 0\nmeasures 1\n0 0\n", 4), ("bounds 0\nmeasures 1\n", 3), ("bounds 0\nmeasures 1\n\n0 0", 3),
                ("bounds 0\nmeasures 1\n0 0,0 0", 3), ("bounds 0\nmeasures 1\n0 0, ", 3),
                ("bounds 0\nmeasures 1\n, 0 0", 3), ("bounds 0\nmeasures 1\n0 0 , 0 0", 3),
                ("bounds 0\nmeasures 1\n0 0,  0 0", 3), ("bounds 0\nmeasures 1\n0  0", 3), ("bounds 0\nmeasures 1\n0 0 ", 3),
                ("bounds 0\nmeasures 1\n 0 0", 3), ("bounds 0\nmeasures 1\n0 -1", 3), ("bounds 0\nmeasures 1\n0 01", 3),
                ("bounds 0\nmeasures 1\n0 x", 3), ("bounds 0\nmeasures 1\n0 " + "1" * 41, 3),
                ("bounds 0\nmeasures 1\n0 0\nbounds 0", 4), ("bounds 0\nmeasures 1\n0 0\nmeasures 1", 4),
                ("bounds 0 0 0\nmeasures\n0 0\n0 x", 4)):
            self.assert_bad_text(read_table, text, line)
        self.assert_no_strings(read_table)

    def test_bad_table_comes_behind_bad_text(self):
        for text, part, index in (
                ("bounds 0 0 0\nmeasures 1 1 1\n0 0 0 0", "bounds", -1), ("bounds 0\nmeasures\n0 0", "measures", -1),
                ("bounds 0\nmeasures 1 1\n0 0", "measures", -1),
                ("bounds 0\nmeasures 0\n0 0", "measures", -1), ("bounds\nmeasures 1\n0", "measures", -1),
                ("bounds 1000\nmeasures 1\n0 0", "cells", -1),
                ("bounds " + "9" * 40 + "\nmeasures 1", "cells", -1), ("bounds 0\nmeasures 1", "rows", -1),
                ("bounds 0\nmeasures 1\n0 0\n0 0", "rows", -1), ("bounds\nmeasures", "rows", -1),
                ("bounds 0\nmeasures 1\n0", "rows", 0), ("bounds 0\nmeasures 1\n0 0 0", "rows", 0),
                ("bounds 0\nmeasures 2\n0 0\n0 0, 0 0", "rows", 1), ("bounds 1\nmeasures 1\n0 1\n0 0", "rows", 0),
                ("bounds 0\nmeasures 2\n0 0, 0 0\n0 0, 0", "rows", 1),
                ("bounds\nmeasures\n" + ", ".join(["1"] * 13), "rows", 0)):
            self.assert_bad(BadTable, read_table, text, part, index)
            self.assert_bad_text(read_table, text + "\n", text.count("\n") + 2)
            self.assert_bad_text(read_table, text + "\n0 x", text.count("\n") + 2)
        self.assertEqual(read_table("bounds\nmeasures\n" + ", ".join(["1"] * 12)), Table((), (), (((1, ()),) * 12,)))

    def test_greater_numbers_than_can_be_read(self):
        program = Program(("x",), ("x",), (("round", "x", (("more", "x"),) * 9),) * 50)
        text = table_text(table_of(program))
        self.assertEqual(text, "bounds 0\nmeasures 1\n0 1" + "0" * 50)
        self.assert_bad_text(read_table, text, 3)


class TestCodeTexts(TextCase):
    def test_known_by_hand(self):
        text = "registers 4\ncopy 3 0\nless 3 5\ncopy 1 2\nmore 2\ngo 1"
        self.assertEqual(code_text(code_of(LESS)), text)
        self.assertEqual(read_code(text), code_of(LESS))
        self.assertEqual(code_text(Code(1, ())), "registers 1")
        self.assertEqual(read_code("registers 1000"), Code(1000, ()))
        self.assertEqual(read_code("registers 1\nzero 0\ngo 2"), Code(1, (("zero", 0), ("go", 2))))

    def test_drawn_programs(self):
        chance = random.Random(144)
        for _ in range(200):
            code = code_of(drawn_program(chance))
            text = code_text(code)
            self.assertEqual(read_code(text), code)
            self.assertEqual(code_text(read_code(text)), text)

    def test_wrong_lines(self):
        for text, line in (
                ("", 1), ("registers", 1), ("registers ", 1), ("registers 1 1", 1), ("registers x", 1), ("registers 01", 1),
                ("registers -1", 1), ("registers  1", 1), (" registers 1", 1),
                ("register 1", 1), ("registers " + "1" * 41, 1), ("zero 0\nregisters 1", 1), ("registers 1\n", 2),
                ("registers 1\nzero", 2), ("registers 1\nzero 0 0", 2), ("registers 1\nzero 0\n", 3),
                ("registers 1\nzero  0", 2), ("registers 1\nzero 0 ", 2), ("registers 1\n zero 0", 2),
                ("registers 1\nZero 0", 2), ("registers 1\nround 0", 2), ("registers 1\nregisters 1", 2),
                ("registers 1\ncopy 0", 2), ("registers 1\ncopy 0 0 0", 2), ("registers 1\nmore", 2),
                ("registers 1\nmore 0 0", 2), ("registers 1\ngo", 2), ("registers 1\ngo 0 0", 2),
                ("registers 1\nless 0", 2), ("registers 1\nless 0 0 0", 2), ("registers 1\nless 0 00", 2),
                ("registers 1\nless 0 x", 2), ("registers 1\nless 0, 0", 2), ("registers 1\nless 0 -1", 2),
                ("registers 1\ngo " + "1" * 41, 2), ("registers 1\n0 0", 2), ("registers 1\ngo 0\nend", 3)):
            self.assert_bad_text(read_code, text, line)
        self.assert_no_strings(read_code)

    def test_bad_code_comes_behind_bad_text(self):
        for text, part in (
                ("registers 0", "registers"), ("registers 1001", "registers"),
                ("registers " + "9" * 40 + "\nzero 9", "registers"), ("registers 1" + "\ngo 0" * 20001, "steps"),
                ("registers 1\nzero 1", 0), ("registers 1\nzero 0\ncopy 0 1", 1), ("registers 1\ngo 2", 0),
                ("registers 2\nless 1 2\nless 1 3", 1), ("registers 1\ngo " + "9" * 40, 0)):
            self.assert_bad(BadCode, read_code, text, part)
            self.assert_bad_text(read_code, text + "\nzero", text.count("\n") + 2)
        self.assertEqual(len(read_code("registers 1" + "\ngo 0" * 20000).steps), 20000)


if __name__ == "__main__":
    unittest.main()
