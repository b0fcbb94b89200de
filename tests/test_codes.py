"""11.1 and 11.2: codes, their runs, and programs as codes."""

import itertools
import random
import unittest

from drawn import DOUBLE, HALF, SUM, drawn_input, drawn_program
from flatrounds.codes import Code, code_of, program_of, registers_of, run_code
from flatrounds.errors import BadCode, NoInput, NoNames, NoNumber, NoNumbers, NotCode, TooMany
from flatrounds.making import program_for, put_behind, with_clock
from flatrounds.naming import Supply
from flatrounds.programs import Program, names
from flatrounds.runs import last
from flatrounds.tabling import table_of
from oddthings import LESS, nested, odd_things

GREAT = 10 ** 40 - 1
LESS_CODE = Code(4, (("copy", 3, 0), ("less", 3, 5), ("copy", 1, 2), ("more", 2), ("go", 1)))
NO_STEPS = (
    (), ("odd",), ("zero",), ("zero", 4), ("zero", -1), ("zero", True), ("zero", None), ("zero", "0"), ("zero", 0, 0), ["zero", 0],
    ("copy", 0),
    ("copy", 0, 4), ("copy", 4, 0), ("copy", 0, False), ("copy", 0, 0, 0), ("more",), ("more", 4), ("more", 0, 0), ("go",),
    ("go", 3),
    ("go", -1), ("go", True), ("go", 0, 0), ("go", GREAT), ("less", 0), ("less", 0, 3), ("less", 4, 0), ("less", 0, -1),
    ("less", 0, True),
    ("less", False, 0), ("less", 0, 0, 0), ("round", 0), ("round", 0, ()), ("Zero", 0), ("", 0), (0, 0), (b"zero", 0),
    (None,), (["zero"], 0),
    ("zero", [0]), "zero", "go", 0, None, {}, LESS, (LESS, 0), nested(tuple, 40), ("zero", nested(list, 38)))


def steps_by_hand(code, numbers):
    """The numbers of the registers behind each number of steps, from none on, as long as the code goes on."""
    held, at = list(numbers), 0
    yield tuple(held)
    while at < len(code.steps):
        word, *parts = code.steps[at]
        at += 1
        if word == "zero":
            held[parts[0]] = 0
        elif word == "copy":
            held[parts[0]] = held[parts[1]]
        elif word == "more":
            held[parts[0]] += 1
        elif word == "go":
            at = parts[0]
        elif held[parts[0]] == 0:
            at = parts[1]
        else:
            held[parts[0]] -= 1
        yield tuple(held)


def code_by_hand(program):
    every = list(names(program))
    steps = []
    for statement in program.block:
        if statement[0] != "round":
            steps.append((statement[0], *map(every.index, statement[1:])))
            continue
        steps.append(("copy", len(every), every.index(statement[1])))
        less = len(steps)
        steps.append(None)
        steps += [(deed[0], *map(every.index, deed[1:])) for deed in statement[2]] + [("go", less)]
        steps[less] = ("less", len(every), len(steps))
    return Code(len(every) + 1, tuple(steps))


def drawn_code(chance):
    registers, many = chance.randint(1, 4), chance.randint(0, 8)
    steps = []
    for _ in range(many):
        word = chance.choice(("zero", "copy", "more", "go", "less", "less"))
        kept = {"zero": 1, "copy": 2, "more": 1, "go": 0, "less": 1}[word]
        leading = 1 if word in ("go", "less") else 0
        steps.append((word, *(chance.randrange(registers) for _ in range(kept)),
                      *(chance.randint(0, many) for _ in range(leading))))
    return Code(registers, tuple(steps))


class TestCode(unittest.TestCase):
    def assert_bad(self, registers, steps, part):
        with self.assertRaises(BadCode) as caught:
            Code(registers, steps)
        self.assertEqual(caught.exception.part, part)

    def test_right_codes_keep_what_they_are_made_of(self):
        for registers, steps in ((1, ()), (1000, (("zero", 999), ("copy", 0, 999), ("more", 5), ("go", 5), ("less", 3, 0))),
                                 (1, (("go", 0),)), (1, (("go", 1),)), (2, (("less", 1, 1),)), (1, (("more", 0),) * 20000)):
            code = Code(registers, steps)
            self.assertEqual((code.registers, code.steps), (registers, steps))

    def test_equal_and_unlike(self):
        self.assertTrue(LESS_CODE == Code(4, LESS_CODE.steps))
        self.assertFalse(LESS_CODE != Code(4, LESS_CODE.steps))
        for other in (Code(5, LESS_CODE.steps), Code(4, LESS_CODE.steps[:1]), Code(4, ())):
            self.assertFalse(LESS_CODE == other)
            self.assertTrue(LESS_CODE != other)
        for thing in odd_things() + [(4, LESS_CODE.steps), LESS_CODE.steps, 4]:
            self.assertFalse(LESS_CODE == thing)
            self.assertTrue(LESS_CODE != thing)

    def test_registers(self):
        for registers in (0, -1, 1001, GREAT, True, False, None, "4", (4,), [4], {}, LESS, nested(tuple, 40)):
            for steps in ((), (("zero", 0),), None, (("odd",),)):
                self.assert_bad(registers, steps, "registers")
        for thing in odd_things():
            self.assert_bad(thing, (), "registers")

    def test_steps(self):
        for steps in ([], [("zero", 0)], None, 0, "", "zero", {}, b"", LESS, (("more", 0),) * 20001, (None,) * 20001):
            self.assert_bad(4, steps, "steps")
        for thing in odd_things():
            if not isinstance(thing, tuple):
                self.assert_bad(4, thing, "steps")

    def test_the_first_wrong_step(self):
        for step in NO_STEPS:
            self.assert_bad(4, (step, ("zero", 0)), 0)
            self.assert_bad(4, (("zero", 0), step), 1)
            self.assert_bad(4, (step, None), 0)
        for thing in odd_things():
            self.assert_bad(4, (("zero", 0), ("go", 3), thing), 2)
            self.assert_bad(4, (("zero", thing), ("go", 2)), 0)
        self.assert_bad(1, (("zero", 0), ("copy", 0, 1)), 1)
        self.assert_bad(4, (("go", 2), ("go", 4), ("go", 3)), 1)


class TestRunCode(unittest.TestCase):
    def test_drawn_codes_step_by_step(self):
        chance = random.Random(121)
        ended = 0
        for _ in range(600):
            code = drawn_code(chance)
            numbers = tuple(chance.choice((0, 1, 2, 5, 9, GREAT)) for _ in range(code.registers))
            told = list(itertools.islice(steps_by_hand(code, numbers), 101))
            if len(told) == 101:
                for most in (0, 7, 99):
                    self.assertIsNone(run_code(code, numbers, most))
                continue
            ended += 1
            many = len(told) - 1
            for most in (many, many + 1, 100000):
                self.assertEqual(run_code(code, numbers, most), told[-1])
            for most in {0, many // 2, many - 1} - {many, -1}:
                self.assertIsNone(run_code(code, numbers, most))
        self.assertGreater(ended, 200)

    def test_known_by_hand(self):
        self.assertEqual(run_code(Code(2, ()), (3, GREAT), 0), (3, GREAT))
        self.assertIsNone(run_code(Code(1, (("more", 0),)), (GREAT,), 0))
        self.assertEqual(run_code(Code(1, (("more", 0),)), (GREAT,), 1), (GREAT + 1,))
        self.assertIsNone(run_code(Code(1, (("go", 0),)), (0,), 100000))
        # A less counts as one step, whether it lessens or goes on elsewhere.
        down = Code(1, (("less", 0, 2), ("go", 0)))
        self.assertEqual(run_code(down, (49999,), 99999), (0,))
        self.assertIsNone(run_code(down, (50000,), 100000))
        self.assertEqual(run_code(LESS_CODE, (4, 0, 0, 0), 18), (4, 3, 4, 0))
        self.assertIsNone(run_code(LESS_CODE, (4, 0, 0, 0), 17))

    def test_no_numbers_then_no_number(self):
        code = Code(2, (("more", 0),))
        for numbers in ((), (1,), (1, 2, 3), [1, 2], (1, -1), (1, True), (1, None), ("1", 2), None, 0, {}, {0: 1, 1: 2}, "ab",
                        LESS, nested(tuple, 40)):
            for most in (5, -1, None, 100001):
                with self.subTest(numbers=repr(numbers)), self.assertRaises(NoNumbers):
                    run_code(code, numbers, most)
        for most in (-1, 100001, GREAT, True, False, None, "5", (5,), [5], {}, LESS, nested(list, 40)):
            with self.subTest(most=repr(most)), self.assertRaises(NoNumber):
                run_code(code, (1, 2), most)
        for thing in odd_things():
            for numbers in (thing, (1, thing)):
                if numbers == (1, GREAT + 1):
                    continue
                with self.subTest(thing=repr(thing)), self.assertRaises(NoNumbers):
                    run_code(code, numbers, thing)
            with self.subTest(thing=repr(thing)), self.assertRaises(NoNumber):
                run_code(code, (1, 2), thing)


class TestCodeOf(unittest.TestCase):
    def test_drawn_programs(self):
        chance = random.Random(122)
        for _ in range(300):
            program = drawn_program(chance)
            code = code_of(program)
            self.assertEqual(code, code_by_hand(program))
            self.assertEqual(Code(code.registers, code.steps), code)
            every = names(program)
            back = program_of(code, every, program.given, program.told)
            self.assertEqual(back, program)
            entered = drawn_input(chance, program, 6)
            first = registers_of(program, entered)
            numbers = dict(zip(program.given, entered))
            self.assertEqual(first, tuple(numbers.get(name, 0) for name in every) + (0,))
            told = run_code(code, first, 100000)
            if told is not None:
                self.assertEqual(told, tuple(last(program, entered)[name] for name in every) + (0,))

    def test_known_by_hand(self):
        self.assertEqual(code_of(LESS), LESS_CODE)
        self.assertEqual(code_of(Program((), ("a",), ())), Code(2, ()))
        self.assertEqual(code_of(Program(("b",), ("a",), (("round", "b", ()), ("zero", "a")))),
                         Code(3, (("copy", 2, 1), ("less", 2, 3), ("go", 1), ("zero", 0))))
        two = Program(("x",), ("y",), (("zero", "y"), ("round", "x", (("more", "y"),)), ("round", "y", ()), ("more", "x")))
        self.assertEqual(code_of(two).steps, (
            ("zero", 1), ("copy", 2, 0), ("less", 2, 5), ("more", 1), ("go", 2), ("copy", 2, 1), ("less", 2, 8), ("go", 6),
            ("more", 0)))

    def test_many_names_and_great_programs(self):
        lot = Supply(()).some(1001)
        most = Program((), (lot[0],), tuple(("more", name) for name in lot[:999]))
        code = code_of(most)
        self.assertEqual((code.registers, len(code.steps)), (1000, 999))
        self.assertEqual(Code(code.registers, code.steps), code)
        self.assertEqual(program_of(code, names(most), (), (lot[0],)), most)
        for many in (1000, 1001):
            with self.assertRaises(TooMany) as caught:
                code_of(Program((), (lot[0],), tuple(("more", name) for name in lot[:many])))
            self.assertEqual(caught.exception.most, 999)
        great = Program((), ("y",), (("round", "y", ()),) * 5000)
        self.assertEqual(len(code_of(great).steps), 15000)
        again = Program(("y",), ("y",), great.block)
        self.assertEqual(len(code_of(put_behind(great, again)).steps), 30002)
        greater = with_clock(great, "c")
        code = code_of(greater)
        self.assertEqual(program_of(code, ("c", "y"), (), ("y", "c")), greater)
        self.assertEqual(run_code(code, (0, 0, 0), 20000), (5000, 0, 0))

    def test_made_programs(self):
        for program, entered in ((HALF, (9,)), (LESS, (9,)), (DOUBLE, (7,)), (SUM, (5, 6))):
            made = program_for(table_of(program), program.given, ("t",))
            numbers = run_code(code_of(made), registers_of(made, entered), 100000)
            self.assertEqual(numbers[names(made).index("t")], last(program, entered)[program.told[0]])

    def test_no_input(self):
        for entered in ((), (1, 2), (-1,), (True,), (None,), [1], 1, None, "1", {}, LESS, nested(tuple, 40)):
            with self.subTest(entered=repr(entered)), self.assertRaises(NoInput):
                registers_of(LESS, entered)
        for thing in odd_things():
            with self.subTest(thing=repr(thing)), self.assertRaises(NoInput):
                registers_of(LESS, thing)
        self.assertEqual(registers_of(LESS, (GREAT,)), (GREAT, 0, 0, 0))
        self.assertEqual(registers_of(Program((), ("a",), ()), ()), (0, 0))
        self.assertEqual(registers_of(Program(("b", "a"), ("c",), ()), (1, 2)), (2, 1, 0, 0))


class TestProgramOf(unittest.TestCase):
    def assert_not_code(self, code, lot, index):
        with self.assertRaises(NotCode) as caught:
            program_of(code, lot, (), lot[:1])
        self.assertEqual(caught.exception.index, index, code.steps)

    def test_names(self):
        renamed = Program(("round",), ("abcdefgh",), (("round", "round", (("copy", "abcdefgh", "a"), ("more", "a"))),))
        self.assertEqual(program_of(LESS_CODE, ("round", "abcdefgh", "a"), ("round",), ("abcdefgh",)), renamed)
        # Names may stand nowhere.
        self.assertEqual(program_of(Code(4, (("zero", 1),)), ("c", "b", "a"), (), ("b",)),
                         Program((), ("b",), (("zero", "b"),)))
        self.assertEqual(program_of(Code(3, ()), ("x", "y"), ("y", "x"), ("x",)), Program(("y", "x"), ("x",), ()))

    def test_no_names(self):
        lot = ("x", "y", "z")
        wrong = Code(4, (("zero", 3),))
        for names_passed in ((), ("x",), ("x", "y"), ("x", "y", "z", "a"), ("x", "y", "x"), ["x", "y", "z"], ("x", "y", "Z"),
                             ("x", "y", None),
                             ("x", "y", b"z"), ("x", "y", ["z"]), "xyz", None, 3, {}, LESS, nested(tuple, 40)):
            for code in (LESS_CODE, wrong):
                with self.subTest(names=repr(names_passed)), self.assertRaises(NoNames):
                    program_of(code, names_passed, ("x",), ("y",))
        for given in (("a",), ("x", "a"), ("x", "x"), ("x", "y", "z"), ["x"], "x", None, ("X",), (None,), (["x"],), {}, LESS,
                      nested(list, 40)):
            with self.subTest(given=repr(given)), self.assertRaises(NoNames):
                program_of(wrong, lot, given, ("y",))
        for told in ((), ("a",), ("x", "a"), ("x", "x"), ["x"], "x", None, ("X",), (None,), ({},), {}, LESS):
            with self.subTest(told=repr(told)), self.assertRaises(NoNames):
                program_of(wrong, lot, ("x",), told)
        with self.assertRaises(NoNames):
            program_of(Code(6, ()), ("a", "b", "c", "d", "e"), (), ("a", "b", "c", "d", "e"))
        with self.assertRaises(NoNames):
            program_of(Code(1, ()), (), (), ())
        for thing in odd_things():
            for arguments in ((thing, (), ("x",)), (lot, thing, ("x",)), (lot, (), thing)):
                if arguments == (lot, (), ("x",)):
                    continue
                with self.subTest(arguments=repr(arguments)), self.assertRaises(NoNames):
                    program_of(wrong, *arguments)

    def test_all_short_codes_of_one_name(self):
        """What the steps up to some of them begin is looked up among all codes of programs that are little longer."""
        begun, whole = beginnings(5)
        for many in range(4):
            alphabet = [("zero", 0), ("zero", 1), ("copy", 0, 0), ("copy", 0, 1), ("copy", 1, 0), ("copy", 1, 1), ("more", 0),
                        ("more", 1)]
            alphabet += [("go", a) for a in range(many + 1)] + [("less", r, a) for r in (0, 1) for a in range(many + 1)]
            for steps in itertools.product(alphabet, repeat=many):
                wrong = [at for at in range(many) if steps[:at + 1] not in begun]
                code = Code(2, steps)
                if wrong:
                    self.assert_not_code(code, ("x",), wrong[0])
                elif steps not in whole:
                    self.assert_not_code(code, ("x",), many)
                else:
                    self.assertEqual(code_of(program_of(code, ("x",), (), ("x",))), code)

    def test_changed_steps(self):
        chance = random.Random(123)
        found = 0
        while found < 300:
            program = drawn_program(chance)
            code = code_by_hand(program)
            steps = list(code.steps)
            if not steps:
                continue
            at = chance.randrange(len(steps))
            way = chance.randrange(4)
            other = chance.choice(steps)
            if way == 0:
                steps[at] = other
            elif way == 1:
                del steps[at]
            elif way == 2:
                steps.insert(at, other)
            else:
                steps.insert(at, steps[at])
            try:
                changed = Code(code.registers, tuple(steps))
            except BadCode:
                continue
            found += 1
            index = index_by_hand(changed)
            every = names(program)
            if index is None:
                back = program_of(changed, every, program.given, program.told)
                every_one = {name: k for k, name in enumerate(every)}
                self.assertEqual(steps_of_block(back.block, every_one, code.registers - 1), changed.steps)
            else:
                self.assert_not_code(changed, every, index)

    def test_known_by_hand(self):
        copy, less, deed, go = ("copy", 1, 0), ("less", 1, 4), ("more", 0), ("go", 1)
        for steps, index in (
                ((copy,), 1), ((copy, ("less", 1, 1)), 1), ((copy, ("less", 1, 2)), 1), ((copy, ("less", 1, 0), go), 1),
                ((copy, ("less", 1, 3), go), None), ((copy, ("less", 1, 2), go), 1), ((copy, less, deed, go), None),
                ((copy, less, deed, deed), 3), ((copy, less, deed, ("go", 0)), 3), ((copy, less, go, deed), 2),
                ((copy, less, go, go), 2),
                ((copy, less, copy, go), 2), ((copy, ("less", 0, 4), deed, go), 1), ((copy, deed, less, go), 1),
                ((deed, go), 1), ((less, deed, go, go), 0),
                ((("copy", 1, 1), less, deed, go), 0), ((("copy", 0, 1), deed), 0), ((deed, ("more", 1)), 1),
                ((("zero", 1),), 0),
                ((copy, less, ("zero", 1), go), 2), ((copy, less, ("copy", 0, 1), go), 2), ((copy, less, deed, go, go), 4),
                ((copy, less, deed, go, copy), 5),
                ((copy, ("less", 1, 5), deed, deed, go, deed), None), ((copy, ("less", 1, 5), deed, go, deed), 3)):
            if index is None:
                self.assertEqual(steps_of_block(program_of(Code(2, steps), ("x",), (), ("x",)).block, {"x": 0}, 1), steps)
            else:
                self.assert_not_code(Code(2, steps), ("x",), index)

    def test_more_statements_than_a_program_can_have(self):
        code = Code(2, (("more", 0),) * 20000)
        self.assertEqual(len(program_of(code, ("x",), (), ("x",)).block), 20000)


def beginnings(most):
    """What all codes of one name of at most so many steps begin with, and these codes."""
    deeds = [("zero", "x"), ("copy", "x", "x"), ("more", "x")]
    statements = deeds + [("round", "x", inside) for many in range(most) for inside in itertools.product(deeds, repeat=many)]
    whole = {()}
    blocks = [()]
    while blocks:
        longer = []
        for block in blocks:
            for statement in statements:
                steps = steps_of_block(block + (statement,), {"x": 0}, 1)
                if len(steps) <= most:
                    whole.add(steps)
                    longer.append(block + (statement,))
        blocks = longer
    return {steps[:many] for steps in whole for many in range(len(steps) + 1)}, whole


def steps_of_block(block, registers, counter):
    steps = []
    for statement in block:
        if statement[0] == "round":
            less = len(steps) + 1
            inside = [(deed[0], *(registers[name] for name in deed[1:])) for deed in statement[2]]
            steps += [("copy", counter, registers[statement[1]]), ("less", counter, less + len(inside) + 2), *inside,
                      ("go", less)]
        else:
            steps.append((statement[0], *(registers[name] for name in statement[1:])))
    return tuple(steps)


def index_by_hand(code):
    """The index that NotCode tells, or None, by a machine that knows what may stand next."""
    counter = code.registers - 1
    expected, less, behind = "statement", None, None
    for at, step in enumerate(code.steps):
        deed = step[0] in ("zero", "copy", "more") and counter not in step[1:]
        if expected == "less":
            if step[:2] != ("less", counter) or step[2] < at + 2:
                return at
            expected, less, behind = "inside", at, step[2]
        elif expected == "inside" and at == behind - 1:
            if step != ("go", less):
                return at
            expected = "statement"
        elif not deed:
            if expected == "inside" or step[:2] != ("copy", counter) or step[2] == counter:
                return at
            expected = "less"
    return None if expected == "statement" else len(code.steps)


if __name__ == "__main__":
    unittest.main()
