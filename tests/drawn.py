"""Programs, inputs and tables by chance (the same ones always), and what is told of them by hand, one by one."""

import itertools
import random

from flatrounds.programs import Program, names
from flatrounds.tables import Table, many_cells
from oddthings import done_deeds

LETTERS = "abcdefgh"
HALF = Program(("x",), ("h",), (
    ("round", "x", (("copy", "t", "h"), ("copy", "h", "g"), ("copy", "g", "t"), ("more", "g"))),))
DOUBLE = Program(("x",), ("y",), (("round", "x", (("more", "y"), ("more", "y"))),))
SUM = Program(("x", "y"), ("x",), (("round", "y", (("more", "x"),)),))


def drawn_deed(chance, letters):
    word = chance.choice(("zero", "copy", "copy", "copy", "more", "more", "more"))
    return (word, *(chance.choice(letters) for _ in range(2 if word == "copy" else 1)))


def drawn_wheel(chance, letters):
    """Deeds that turn some names around, by one more name, and raise some."""
    ring = chance.sample(letters, chance.randint(2, len(letters) - 1))
    spare = chance.choice([name for name in letters if name not in ring])
    deeds = [("copy", spare, ring[0])] + [("copy", *pair) for pair in zip(ring, ring[1:])] + [("copy", ring[-1], spare)]
    for _ in range(chance.randint(0, 2)):
        deeds.insert(chance.randint(0, len(deeds)), ("more", chance.choice(ring)))
    return deeds


def drawn_chain(chance, letters):
    """Deeds that hand numbers on from name to name, perhaps with a growing or an empty end."""
    chain = chance.sample(letters, chance.randint(2, len(letters)))
    return [("copy", *pair) for pair in zip(chain, chain[1:])] + chance.choice(
        ([], [("more", chain[-1])], [("more", chain[-1])], [("zero", chain[-1])]))


def drawn_round(chance, letters):
    kind = chance.randint(0, 4)
    if kind == 0 or len(letters) < 3:
        deeds = [drawn_deed(chance, letters) for _ in range(chance.randint(0, 5))]
    elif kind < 3:
        deeds = drawn_wheel(chance, letters)
    else:
        deeds = drawn_chain(chance, letters)
    return ("round", chance.choice(letters), tuple(deeds))


def drawn_program(chance, many=None):
    """A program, perhaps with so many given names."""
    letters = list(LETTERS[:chance.randint(2 if many is None else max(2, many), 6)])
    given = tuple(chance.sample(letters, chance.randint(0, 2) if many is None else many))
    told = tuple(chance.sample(letters, chance.randint(1, min(4, len(letters)))))
    block = []
    for _ in range(chance.randint(0, 6)):
        block.append(drawn_deed(chance, letters) if chance.random() < 0.5 else drawn_round(chance, letters))
    return Program(given, told, tuple(block))


def drawn_input(chance, program, most):
    return tuple(chance.randint(0, most) for _ in program.given)


def divided(name, times):
    """Statements that leave in w the name's number divided by 2, so many times, downward; h, g and t are 0 behind them."""
    block = [("copy", "w", name)]
    for _ in range(times):
        block += [("round", "w", HALF.block[0][2]), ("copy", "w", "h"), ("zero", "h"), ("zero", "g"), ("zero", "t")]
    return block


def lag(names_in_line):
    """Deeds that hand on from the last name, which grows, to the first one."""
    return tuple(("copy", *pair) for pair in zip(names_in_line, names_in_line[1:])) + (("more", names_in_line[-1]),)


def small_runs(seed, many, most=200):
    """Programs with inputs whose runs can be gone through deed by deed, and all their moments."""
    chance = random.Random(seed)
    found = 0
    while found < many:
        program = drawn_program(chance)
        entered = drawn_input(chance, program, 5)
        told = all_moments(program, entered, most)
        if told is not None:
            found += 1
            yield program, entered, told


def all_moments(program, entered, most=10 ** 4):
    """For each moment what is next, the pair or None, and the numbers of all names; None if there are more than most."""
    numbers = {name: 0 for name in names(program)}
    numbers.update(zip(program.given, entered))
    found = []
    for k, statement in enumerate(program.block):
        found.append((((k,), 0), numbers))
        if statement[0] == "round":
            for time in range(numbers[statement[1]]):
                for j, deed in enumerate(statement[2]):
                    found.append((((k, j), time), numbers))
                    numbers = done_deeds((deed,), numbers)
                if len(found) > most:
                    return None
        else:
            numbers = done_deeds((statement,), numbers)
    return found + [(None, numbers)]


def inputs(many, most):
    """All inputs of so many numbers below most."""
    return list(itertools.product(range(most), repeat=many))


def far_inputs(chance, many, count):
    """Inputs of great numbers, and of great ones beside small ones."""
    return [tuple(chance.choice((chance.randint(0, 60), chance.randint(0, 10 ** 40))) for _ in range(many))
            for _ in range(count)]


def drawn_table(chance, many=None, results=None, most=3, base=3, steps=(0, 0, 1, 1, 2, 3), cells=1000):
    """A table of inputs of so many numbers, with so many results and no more than so many cells."""
    while True:
        length = chance.randint(0, 2) if many is None else many
        bounds = tuple(chance.randint(0, most) for _ in range(length))
        measures = tuple(chance.randint(1, most) for _ in range(length))
        if many_cells(bounds, measures) <= cells:
            break
    width = chance.randint(1, 3) if results is None else results
    rows = []
    for cell in cells_by_hand(bounds, measures):
        rows.append(tuple((chance.randint(0, base), tuple(
            chance.choice(steps) if number >= bound else 0 for number, bound in zip(cell, bounds)))
            for _ in range(width)))
    return Table(bounds, measures, tuple(rows))


def cells_by_hand(bounds, measures):
    return list(itertools.product(*(range(bound + measure) for bound, measure in zip(bounds, measures))))


def value_by_hand(table, entered):
    """The results by the sentence of 4.1: the step more each time that a great number is raised by its measure."""
    cell, times = [], []
    for number, bound, measure in zip(entered, table.bounds, table.measures):
        raised = max(0, (number - bound) // measure)
        cell.append(number - raised * measure)
        times.append(raised)
    at = cells_by_hand(table.bounds, table.measures).index(tuple(cell))
    return tuple(base + sum(step * many for step, many in zip(steps, times)) for base, steps in table.rows[at])


def by_least(entered):
    """What the least of some inputs is the least by."""
    return (sum(entered), entered)


def is_right(table):
    """Whether a returned table is one that could be constructed."""
    return Table(table.bounds, table.measures, table.rows) == table
