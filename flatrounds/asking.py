"""Questions to tables: which inputs have a result, what results there are, and what always holds of them."""

from math import gcd, lcm

from flatrounds.errors import NoIndex, NoNumber, NotOne, NotUnlike, TooMany
from flatrounds.kinds import is_index, is_number
from flatrounds.likeness import probes
from flatrounds.tables import (
    MOST_CELLS, cells, least, many_cells, raised_cells, sampled, value)

MOST_MISSED = 10000


def _ask_index(table, at):
    if not is_index(at, len(table.rows[0])):
        raise NoIndex()


def _ask_index_and_number(table, at, number):
    _ask_index(table, at)
    if not is_number(number):
        raise NoNumber()


def least_input(table, at, number):
    """The least input with this number as the result at, or None."""
    _ask_index_and_number(table, at, number)
    found = []
    for cell, row in zip(cells(table), table.rows):
        base, steps = row[at]
        for raised in _outermost(steps, number - base):
            entered = _raised(table, cell, raised)
            found.append((sum(entered), entered))
    return min(found)[1] if found else None


def many_inputs(table, at, number):
    """How many inputs have this number as the result at, None if there is no end of them."""
    _ask_index_and_number(table, at, number)
    total = 0
    for cell, row in zip(cells(table), table.rows):
        base, steps = row[at]
        ends = _outermost(steps, number - base)
        if len(ends) == 0:
            continue
        great = [i for i, bound in enumerate(table.bounds) if cell[i] >= bound]
        if not all([steps[i] > 0 for i in great]):
            return None
        total += 1
        if len(great) == 2:
            total += (ends[1][0] - ends[0][0]) // (steps[1] // gcd(steps[0], steps[1]))
    return total


def _raised(table, cell, raised):
    """The input that comes of a cell's least one, each number raised so many times by its measure."""
    return tuple([number + times * measure for number, times, measure in zip(cell, raised, table.measures)])


def _outermost(steps, total):
    """How often each step is to be taken, so that they come to a total: the ways that may be of the least input.

    Steps of 0 are not taken. Of two other steps, all ways lie on a line; these are its ends, the first one with as few
    of the first step as can be.
    """
    if total < 0:
        return []
    growing = [i for i, step in enumerate(steps) if step > 0]
    if len(growing) == 0:
        return [(0,) * len(steps)] if total == 0 else []
    if len(growing) == 1:
        times, rest = divmod(total, steps[growing[0]])
        return [tuple([times if i == growing[0] else 0 for i in range(len(steps))])] if rest == 0 else []
    one, other = steps
    first = _fewest(one, other, total)
    if first is None or one * first > total:
        return []
    last = _fewest(other, one, total)
    return [(first, (total - one * first) // other), ((total - other * last) // one, last)]


def _fewest(one, other, total):
    """How few times one can be taken so that the total less these is a multiple of the other, or None."""
    common = gcd(one, other)
    if total % common != 0:
        return None
    modulus = other // common
    return total // common * _inverse(one // common, modulus) % modulus


def _inverse(number, modulus):
    """What times the number has the rest 1 by the modulus; they have no common divisor."""
    old, new = modulus, number % modulus
    before, now = 0, 1
    while new > 0:
        times = old // new
        old, new = new, old - times * new
        before, now = now, before - times * now
    return before % modulus


def greatest(table, at):
    """The greatest result and its least input, or None if there is no greatest."""
    _ask_index(table, at)
    if any([step > 0 for row in table.rows for step in row[at][1]]):
        return None
    most = max([row[at][0] for row in table.rows])
    return (most, _first_cell(table, at, most))


def lowest(table, at):
    """The least result and its least input."""
    _ask_index(table, at)
    few = min([row[at][0] for row in table.rows])
    return (few, _first_cell(table, at, few))


def _first_cell(table, at, number):
    """The least input of the cells whose least inputs have the number as the result at."""
    found = [(sum(cell), cell) for cell, row in zip(cells(table), table.rows) if row[at][0] == number]
    return min(found)[1]


def missed(table, at, most):
    """The least number below most that is never the result at, or None."""
    _ask_index(table, at)
    if not is_number(most) or not 1 <= most <= MOST_MISSED:
        raise NoNumber()
    # The bits of the integer tell which numbers are results.
    hit = 0
    for base, steps in sorted({row[at]: True for row in table.rows}):
        if base < most:
            hit = hit | _sums_from(base, steps, most)
    first = (hit ^ (hit + 1)).bit_length() - 1
    return first if first < most else None


def _sums_from(base, steps, most):
    """The numbers below most that come of a base by taking steps, as the bits of an integer."""
    inside = (1 << most) - 1
    bits = 1 << base
    for step in steps:
        # Each time the steps taken so far, up to some number of them, are taken once more.
        while 0 < step < most:
            bits = (bits | bits << step) & inside
            step = 2 * step
    return bits


def more_input(table, one, other):
    """An input whose result one is greater than its result other, or None."""
    _ask_index(table, one)
    _ask_index(table, other)

    def excess(entered):
        row = value(table, entered)
        return row[one] - row[other]

    return _where_above(table, excess)


def falls(table, at, k):
    """An input whose result is greater than that of the input with the number k one greater, or None."""
    _ask_index(table, at)
    if not is_index(k, len(table.bounds)):
        raise NoIndex()

    def excess(entered):
        behind = entered[:k] + (entered[k] + 1,) + entered[k + 1:]
        return value(table, entered)[at] - value(table, behind)[at]

    return _where_above(table, excess)


def _where_above(table, function):
    """An input for which a function is above 0, or None; in each cell it changes by fixed amounts."""
    for cell in cells(table):
        first = function(cell)
        if first > 0:
            return cell
        for i, there in enumerate(raised_cells(table.bounds, table.measures, cell)):
            if there is not None and function(there) > first:
                times = -first // (function(there) - first) + 1
                return cell[:i] + (cell[i] + times * table.measures[i],) + cell[i + 1:]
    return None


def equations(table):
    """All linear equations that hold for all inputs, as the list of rows of integers in which they come."""
    basis = {}
    # What holds at a cell's least input, and one step from it, holds in the cell.
    for entered in probes(table.bounds, table.measures):
        _take_in(basis, (1,) + entered + value(table, entered))
    width = 1 + len(table.bounds) + len(table.rows[0])
    _clear(basis)
    return [_row_through(basis, free, width) for free in range(width) if free not in basis]


def _take_in(basis, row):
    """Puts what is new of a row into the basis, in which each row stands under its last column that is not 0."""
    width = len(row)
    for column in reversed(range(width)):
        if row[column] == 0:
            continue
        if column not in basis:
            basis[column] = _without_divisor(row)
            return
        row = _without(row, basis[column], column)


def _clear(basis):
    """Changes the rows of the basis so that each alone is not 0 in its column."""
    columns = sorted(basis)
    for column in columns:
        for other in columns:
            if other > column and basis[other][column] != 0:
                basis[other] = _without(basis[other], basis[column], column)


def _without(row, other, column):
    """The row less the other one, each taken so often that the column becomes 0; of the row more than 0 times."""
    scale = abs(other[column])
    share = row[column] if other[column] > 0 else -row[column]
    return _without_divisor([scale * here - share * there for here, there in zip(row, other)])


def _without_divisor(row):
    """The row divided by its greatest common divisor."""
    common = 0
    for number in row:
        common = gcd(common, number)
    if common == 0:
        return tuple(row)
    return tuple([number // common for number in row])


def _row_through(basis, free, width):
    """The equation that has a column without a row in the basis as its first one, and 0 in the other such columns."""
    common = 1
    for column, row in basis.items():
        common = lcm(common, abs(row[column]) // gcd(row[column], row[free]))
    found = [0] * width
    found[free] = common
    for column, row in basis.items():
        found[column] = -common * row[free] // row[column]
    return _without_divisor(found)


def same_results(table):
    """Two unlike inputs with the same results, or None."""
    if len(table.bounds) != 1:
        raise NotOne()
    bound = table.bounds[0]
    measure = table.measures[0]
    rows = [[(base, steps[0]) for base, steps in row] for row in table.rows]
    for cell in range(bound, bound + measure):
        if not any([step for _, step in rows[cell]]):
            return ((cell,), (cell + measure,))
    for k, row in enumerate(rows):
        for cell in range(k):
            met = _meeting(rows[cell], row)
            if met is not None:
                one, other = cell + measure * met[0], k + measure * met[1]
                return ((min(one, other),), (max(one, other),))
    return None


def _meeting(row, other):
    """How often the steps of two rows are to be taken so that the results are the same, or None.

    Each result asks for an equation of the two numbers; a row without steps gets 0.
    """
    asked = []
    for (base, step), (further, stride) in zip(row, other):
        if step != 0 or stride != 0:
            asked.append((step, stride, further - base))
        elif base != further:
            return None
    if len(asked) == 0:
        return (0, 0)
    crossing = [equation for equation in asked if asked[0][0] * equation[1] != asked[0][1] * equation[0]]
    found = _crossed(asked[0], crossing[0]) if crossing else _first_meeting(asked[0])
    if found is None or not all([found[0] * a - found[1] * b == total for a, b, total in asked]):
        return None
    return found


def _crossed(equation, other):
    """The only two numbers that may solve two equations, or None."""
    a, b, total = equation
    c, d, sought = other
    common = b * c - a * d
    one = (b * sought - d * total) // common
    two = (a * sought - c * total) // common
    return (one, two) if one >= 0 and two >= 0 else None


def _first_meeting(equation):
    """The least two numbers that solve an equation, or None."""
    # Of two cells the later one is great, so it grows; the stride is not 0 where no other equation crosses this one.
    step, stride, total = equation
    if step == 0:
        return (0, -total // stride) if total <= 0 and total % stride == 0 else None
    one = _fewest(step, stride, total)
    if one is None:
        return None
    lacking = total - step * one
    if lacking > 0:
        period = stride // gcd(step, stride)
        one += period * -(-lacking // (step * period))
    return (one, (step * one - total) // stride)


def turned_about(table):
    """The least table that tells for each number whether it is a result, and of which input's number."""
    if len(table.bounds) != 1 or len(table.rows[0]) != 1:
        raise NotOne()
    if same_results(table) is not None:
        raise NotUnlike()
    bound = _turned_bound(table)
    if bound >= MOST_CELLS:
        raise TooMany(MOST_CELLS)
    measure = 1
    for row in table.rows[table.bounds[0]:]:
        measure = lcm(measure, row[0][1][0])
    inputs = _inputs_below(table, bound + 2 * measure)
    turned = least(sampled((bound,), (measure,), lambda entered: inputs.get(entered[0], (0, 0))))
    if many_cells(turned.bounds, turned.measures) > MOST_CELLS:
        raise TooMany(MOST_CELLS)
    return turned


def _turned_bound(table):
    """The least bound of the table turned about: behind the last number that breaks the rule of the later ones."""
    bound = table.bounds[0]
    measure = table.measures[0]
    kept = {}
    last = -1
    for cell in range(bound, bound + measure):
        base, steps = table.rows[cell][0]
        number = base - steps[0]
        entered = cell - measure
        # Downward from the cell's least input the rule holds as long as there are such results of small inputs.
        while number >= 0 and entered >= 0 and table.rows[entered][0][0] == number:
            kept[entered] = True
            number -= steps[0]
            entered -= measure
        last = max(last, number)
    for entered in range(bound):
        if entered not in kept:
            last = max(last, table.rows[entered][0][0])
    return last + 1


def _inputs_below(table, most):
    """The results below most as a dict, each with 1 and the number of its input."""
    found = {}
    for cell, row in enumerate(table.rows):
        base, steps = row[0]
        entered = cell
        while base < most:
            found[base] = (1, entered)
            if steps[0] == 0:
                break
            base += steps[0]
            entered += table.measures[0]
    return found
