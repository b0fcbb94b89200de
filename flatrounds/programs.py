"""Programs, and the places of their statements."""

from flatrounds.errors import BadProgram, NoNames, NoPlace, NoStatement
from flatrounds.kinds import (
    first_wrong_deed, is_deed, is_dict_of, is_name_tuple, is_number, is_round_frame, is_statement)

MOST_GIVEN = 2
MOST_TOLD = 4
MOST_STATEMENTS = 5000


class Program:
    """A program: the names that it is given, those that it tells, and its block of statements."""

    def __init__(self, given, told, block):
        if not is_given(given):
            raise BadProgram("given")
        if not is_told(told):
            raise BadProgram("told")
        wrong = _wrong_part(block)
        if wrong is not None:
            raise BadProgram(wrong)
        self.given = given
        self.told = told
        self.block = block

    def __eq__(self, other):
        return (isinstance(other, Program) and self.given == other.given
                and self.told == other.told and self.block == other.block)


def is_given(thing):
    """Whether it is a tuple of names that a program can be given."""
    return is_name_tuple(thing) and len(thing) <= MOST_GIVEN


def is_told(thing):
    """Whether it is a tuple of names that a program can tell."""
    return is_name_tuple(thing) and 1 <= len(thing) <= MOST_TOLD


def _wrong_part(block):
    """What is wrong first of what shall be a block, as BadProgram tells it, or None."""
    if not isinstance(block, tuple):
        return "block"
    for k, statement in enumerate(block):
        if is_deed(statement):
            continue
        if not is_round_frame(statement):
            return (k,)
        j = first_wrong_deed(statement[2])
        if j is not None:
            return (k, j)
    if _size(block) > MOST_STATEMENTS:
        return "size"
    return None


def _size(block):
    """How many statements a block has, the deeds in its rounds counted, too."""
    return len(block) + sum([len(deeds_in(statement)) for statement in block])


def of_any_size(given, told, block):
    """The program of right parts, of however many statements."""
    made = Program(given, told, ())
    # Only what callers construct is bounded; what comes of other programs may be greater.
    made.block = block
    return made


def has_round(statement):
    """Whether a right statement is a round."""
    return statement[0] == "round"


def deeds_in(statement):
    """The deeds in a round; none for a statement that is a deed."""
    if has_round(statement):
        return statement[2]
    return ()


def names(program):
    """All names of a program, ascending."""
    found = list(program.given) + list(program.told)
    for statement in program.block:
        if has_round(statement):
            found.append(statement[1])
            for deed in statement[2]:
                found.extend(deed[1:])
        else:
            found.extend(statement[1:])
    return tuple(sorted(set(found)))


def places(program):
    """All places of a program, ascending."""
    found = []
    for k, statement in enumerate(program.block):
        found.append((k,))
        for j in range(len(deeds_in(statement))):
            found.append((k, j))
    return found


def is_place(program, thing):
    """Whether it is a place of the program."""
    return _is_place_before(program, 0, thing)


def _is_place_before(program, further, thing):
    """Whether it is a place of the program, or lies less than so much further behind a last one."""
    if not isinstance(thing, tuple) or not 1 <= len(thing) <= 2:
        return False
    if not all([is_number(part) for part in thing]):
        return False
    block = program.block
    if len(thing) == 1:
        return thing[0] < len(block) + further
    if thing[0] >= len(block) or not has_round(block[thing[0]]):
        return False
    return thing[1] < len(block[thing[0]][2]) + further


def statement_at(program, place):
    """The statement, or the deed in a round, at a place."""
    if not is_place(program, place):
        raise NoPlace()
    statement = program.block[place[0]]
    if len(place) == 1:
        return statement
    return statement[2][place[1]]


def _replaced(block, place, many, new):
    """The block with the new ones, a tuple, in the stead of so many that stand at the place."""
    k = place[0]
    if len(place) == 1:
        return block[:k] + new + block[k + many:]
    word, name, deeds = block[k]
    j = place[1]
    changed = (word, name, deeds[:j] + new + deeds[j + many:])
    return block[:k] + (changed,) + block[k + 1:]


def left_out(program, place):
    """The program without the statement at a place."""
    if not is_place(program, place):
        raise NoPlace()
    return of_any_size(program.given, program.told, _replaced(program.block, place, 1, ()))


def put_in(program, place, statement):
    """The program with a statement more, ahead of what stands at a place."""
    if not _is_place_before(program, 1, place):
        raise NoPlace()
    if not is_statement(statement) or len(place) == 2 and has_round(statement):
        raise NoStatement()
    block = _replaced(program.block, place, 0, (statement,))
    if _size(block) > MOST_STATEMENTS:
        raise BadProgram("size")
    return of_any_size(program.given, program.told, block)


def renamed(program, new):
    """The program with the new names that a dict has for its names."""
    if not is_dict_of(names(program), new) or not is_name_tuple(tuple(new.values())):
        raise NoNames()
    given = tuple([new[name] for name in program.given])
    told = tuple([new[name] for name in program.told])
    block = tuple([_renamed_statement(statement, new) for statement in program.block])
    return of_any_size(given, told, block)


def _renamed_statement(statement, new):
    if not has_round(statement):
        return _renamed_deed(statement, new)
    deeds = tuple([_renamed_deed(deed, new) for deed in statement[2]])
    return (statement[0], new[statement[1]], deeds)


def _renamed_deed(deed, new):
    return (deed[0],) + tuple([new[name] for name in deed[1:]])
