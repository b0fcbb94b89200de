"""Programs from tables, programs with a clock, and programs behind programs."""

from flatrounds.errors import NoName, NoNames, OtherShape
from flatrounds.kinds import is_name
from flatrounds.naming import Supply
from flatrounds.programs import MOST_TOLD, is_given, is_told, names, of_any_size, renamed
from flatrounds.tables import least
from flatrounds.tabling import clocked


class Draft:
    """A block that grows, names for what it needs, and those that hold some number all the time."""

    def __init__(self, taken):
        self.supply = Supply(taken)
        self.block = []
        self._constants = {0: self.supply.one()}

    def holding(self, number):
        """A name that holds the number; the block makes it where it is asked for first."""
        if number not in self._constants:
            lower = max([known for known in self._constants if known < number])
            name = self.supply.one()
            self.block.append(("copy", name, self._constants[lower]))
            self.block.extend([("more", name)] * (number - lower))
            self._constants[number] = name
        return self._constants[number]

    def read(self, tape, bound, raised, counted):
        """Goes along a tape of names as often as a name counts; returns the name that then holds what was come to.

        From its last name the tape leads back to the one at its bound, and what goes back so is raised by a number.
        """
        spare = self.supply.one()
        steps = [("copy", spare, tape[bound])]
        steps.extend([("copy", here, there) for here, there in zip(tape, tape[1:])])
        steps.append(("copy", tape[-1], spare))
        steps.extend([("more", tape[-1])] * raised)
        self.block.append(("round", counted, tuple(steps)))
        return tape[0]

    def multiples(self, factors, counted):
        """Names that hold so many times what a name counts, as a dict from the factors."""
        held = {factor: self.supply.one() for factor in factors}
        steps = [step for factor in factors for step in [("more", held[factor])] * factor]
        self.block.append(("round", counted, tuple(steps)))
        return held


def program_for(table, given, told):
    """A program with these names given and told, whose results are the values of a table.

    It flags the cell of the input, and for it alone takes the bases and, of each step, so many as it is to be taken.
    """
    if not is_given(given) or len(given) != len(table.bounds):
        raise NoNames()
    if not is_told(told) or len(told) != len(table.rows[0]):
        raise NoNames()
    table = least(table)
    draft = Draft(given + told)
    flags = _flag_cell(draft, table, given)
    taken = [_steps_taken(draft, table, i, name) for i, name in enumerate(given)]
    parts = [draft.supply.some(1 + len(given)) for _ in told]
    for flag, row in zip(flags, table.rows):
        steps = []
        for form, part in zip(row, parts):
            steps.extend(_form_deeds(draft, form, part, taken))
        draft.block.append(("round", flag, tuple(steps)))
    # Names that are given, too, are not needed any more here.
    for name, part in zip(told, parts):
        draft.block.append(("copy", name, part[0]))
        draft.block.extend([("round", further, (("more", name),)) for further in part[1:]])
    return of_any_size(given, told, tuple(draft.block))


def _flag_cell(draft, table, given):
    """Puts 1 into the flag of the input's cell, 0 into all others; returns the flags of all cells."""
    flags = draft.supply.some(len(table.rows))
    draft.block.append(("more", flags[0]))
    # Each time the flag that is up moves on by one cell.
    moving = [("copy", there, here) for here, there in reversed(list(zip(flags, flags[1:])))]
    moving.append(("zero", flags[0]))
    stride = len(flags)
    for bound, measure, name in zip(table.bounds, table.measures, given):
        size = bound + measure
        stride = stride // size
        if size > 1:
            tape = draft.supply.some(size)
            for number, place in enumerate(tape):
                held = draft.holding(number * stride)
                draft.block.append(("copy", place, held))
            moves = draft.read(tape, bound, 0, name)
            draft.block.append(("round", moves, tuple(moving)))
    return flags


def _steps_taken(draft, table, i, name):
    """For each step of the number i, 0 left out, the name of how much it raises the results with it, as a dict."""
    steps = sorted({form[1][i]: True for row in table.rows for form in row if form[1][i] > 0})
    if len(steps) == 0:
        return {}
    size = table.bounds[i] + table.measures[i]
    if size > 1:
        # What is read is how often the tape led back.
        name = draft.read(draft.supply.some(size), table.bounds[i], 1, name)
    return draft.multiples(steps, name)


def _form_deeds(draft, form, part, taken):
    """Deeds that put the base and what the steps raise it by into the names of a part."""
    base, steps = form
    found = [("copy", part[0], draft.holding(base))]
    for step, name, held in zip(steps, part[1:], taken):
        if step > 0:
            found.append(("copy", name, held[step]))
    return found


def with_clock(program, name):
    """The program with a name more told, in which at the end stands how many deeds of the first program were done."""
    if not is_name(name) or name in names(program) or len(program.told) == MOST_TOLD:
        raise NoName()
    return of_any_size(program.given, program.told + (name,), clocked(program.block, name))


def put_behind(program, other):
    """A program that tells what the other one tells of what the first one tells."""
    if len(program.told) != len(other.given):
        raise OtherShape()
    every = names(other)
    # All names of the other one hold 0 at first, so that they are none of those that the first one has used.
    supply = Supply(names(program) + other.told)
    new = {name: supply.one() for name in every}
    behind = renamed(other, new)
    handed = [("copy", name, held) for name, held in zip(behind.given, program.told)]
    told = [("copy", name, held) for name, held in zip(other.told, behind.told)]
    return of_any_size(program.given, other.told, program.block + tuple(handed) + behind.block + tuple(told))
