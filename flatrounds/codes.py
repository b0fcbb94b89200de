"""Codes: steps of a machine with registers, and programs as such steps."""

from flatrounds.errors import BadCode, NoNames, NoNumber, NoNumbers, NotCode, TooMany
from flatrounds.kinds import is_index, is_integer, is_name_tuple, is_number_tuple
from flatrounds.programs import deeds_in, has_round, is_given, is_told, names, of_any_size
from flatrounds.runs import numbers_at_first

MOST_REGISTERS = 1000
MOST_STEPS = 20000
MOST_DONE = 100000
# One register more counts.
MOST_NAMES = 999
# How many registers, then how many steps to go on at, stand behind the word of a step.
STEP_PARTS = {"zero": (1, 0), "copy": (2, 0), "more": (1, 0), "go": (0, 1), "less": (1, 1)}


class Code:
    """A code: how many registers a machine has, and its steps."""

    def __init__(self, registers, steps):
        if not is_integer(registers) or not 1 <= registers <= MOST_REGISTERS:
            raise BadCode("registers")
        if not isinstance(steps, tuple) or len(steps) > MOST_STEPS:
            raise BadCode("steps")
        for at, step in enumerate(steps):
            if not _is_step(step, registers, len(steps)):
                raise BadCode(at)
        self.registers = registers
        self.steps = steps

    def __eq__(self, other):
        return isinstance(other, Code) and self.registers == other.registers and self.steps == other.steps


def _is_step(thing, registers, many):
    """Whether it is a step of registers below this number, of a code of so many steps."""
    if not isinstance(thing, tuple) or len(thing) == 0 or not isinstance(thing[0], str):
        return False
    held, leading = STEP_PARTS.get(thing[0], (0, 0))
    if held + leading == 0 or len(thing) != 1 + held + leading:
        return False
    if not all([is_index(part, registers) for part in thing[1:1 + held]]):
        return False
    return all([is_index(part, many + 1) for part in thing[1 + held:]])


def _code_of_any_size(registers, steps):
    """The code of right steps, of however many."""
    made = Code(registers, ())
    # Only what callers construct is bounded; what comes of programs may be greater.
    made.steps = steps
    return made


def run_code(code, numbers, most):
    """The numbers of all registers at the end, or None if it does not end within most steps."""
    if not is_number_tuple(numbers, code.registers):
        raise NoNumbers()
    if not is_index(most, MOST_DONE + 1):
        raise NoNumber()
    held = list(numbers)
    end = len(code.steps)
    at = 0
    many = 0
    while at < end and many < most:
        at = _behind_step(held, code.steps[at], at)
        many += 1
    return tuple(held) if at == end else None


def _behind_step(held, step, at):
    """Does a step to what the registers hold; tells at which step it goes on."""
    word = step[0]
    if word == "go":
        return step[1]
    if word == "less" and held[step[1]] == 0:
        return step[2]
    if word == "zero":
        held[step[1]] = 0
    elif word == "copy":
        held[step[1]] = held[step[2]]
    elif word == "more":
        held[step[1]] += 1
    else:
        held[step[1]] -= 1
    return at + 1


def code_of(program):
    """The code of a program: the names, ascending, have the registers from 0 on, and the one behind them counts."""
    every = names(program)
    if len(every) > MOST_NAMES:
        raise TooMany(MOST_NAMES)
    registers = {name: number for number, name in enumerate(every)}
    counter = len(every)
    steps = []
    for statement in program.block:
        if has_round(statement):
            less = len(steps) + 1
            behind = less + len(deeds_in(statement)) + 2
            steps.append(("copy", counter, registers[statement[1]]))
            steps.append(("less", counter, behind))
            steps.extend([_step_for(deed, registers) for deed in deeds_in(statement)])
            steps.append(("go", less))
        else:
            steps.append(_step_for(statement, registers))
    return _code_of_any_size(counter + 1, tuple(steps))


def _step_for(deed, registers):
    """The step that does a deed."""
    return (deed[0],) + tuple([registers[name] for name in deed[1:]])


def registers_of(program, entered):
    """The numbers of all registers at first, for the code of a program."""
    numbers = numbers_at_first(program, entered)
    return tuple([numbers[name] for name in names(program)]) + (0,)


def program_of(code, lot, given, told):
    """The program with these given and told names whose code has these steps; a lot of names has the registers."""
    if not is_name_tuple(lot) or len(lot) != code.registers - 1:
        raise NoNames()
    if not is_given(given) or not all([name in lot for name in given]):
        raise NoNames()
    if not is_told(told) or not all([name in lot for name in told]):
        raise NoNames()
    block = []
    at = 0
    while at < len(code.steps):
        statement, at = _statement_from(code.steps, at, lot)
        block.append(statement)
    return of_any_size(given, told, tuple(block))


def _statement_from(steps, at, lot):
    """The statement that begins at a step, and the step behind it."""
    counter = len(lot)
    if steps[at][0] != "copy" or steps[at][1] != counter or steps[at][2] == counter:
        return (_deed_at(steps, at, lot), at + 1)
    less = at + 1
    if less == len(steps):
        raise NotCode(less)
    # The step behind the round is two behind its less at least, for the go stands between them.
    if steps[less][:2] != ("less", counter) or steps[less][2] < less + 2:
        raise NotCode(less)
    behind = steps[less][2]
    deeds = tuple([_deed_at(steps, number, lot) for number in range(less + 1, behind - 1)])
    if steps[behind - 1] != ("go", less):
        raise NotCode(behind - 1)
    return (("round", lot[steps[at][2]], deeds), behind)


def _deed_at(steps, at, lot):
    """The deed that a step does, if it is one of a program."""
    word = steps[at][0]
    if word == "go" or word == "less" or not all([number < len(lot) for number in steps[at][1:]]):
        raise NotCode(at)
    return (word,) + tuple([lot[number] for number in steps[at][1:]])
