"""Tables from tables.

Each function finds bounds and measures that are great enough for what it builds, asks for the values in each cell,
and takes the least table. Only this one's cells are counted: there may be more of them on the way.
"""

from math import gcd, lcm

from flatrounds.errors import NoIndex, NoIndexes, NoNumber, NoNumbers, OtherShape, TooMany
from flatrounds.kinds import is_index, is_number, is_number_tuple
from flatrounds.tables import (
    MOST_CELLS, MOST_RESULTS, cells, least, many_cells, sampled, table_of_any, value, widened)

MOST_DIVISOR = 12


def _built(bounds, measures, function):
    """The least table with a function's values, which has some of these bounds and measures."""
    table = least(sampled(tuple(bounds), tuple(measures), function))
    if many_cells(table.bounds, table.measures) > MOST_CELLS:
        raise TooMany(MOST_CELLS)
    return table


def _many_results(table):
    return len(table.rows[0])


def _ask_index(table, at):
    if not is_index(at, _many_results(table)):
        raise NoIndex()


def beside(one, other):
    """The results of one, then those of the other, of the same input."""
    if len(one.bounds) != len(other.bounds):
        raise OtherShape()
    if _many_results(one) + _many_results(other) > MOST_RESULTS:
        raise TooMany(MOST_RESULTS)
    one = least(one)
    other = least(other)
    # These are the least bounds and measures of both together, so no other ones would have fewer cells.
    bounds = tuple([max(here, there) for here, there in zip(one.bounds, other.bounds)])
    measures = tuple([lcm(here, there) for here, there in zip(one.measures, other.measures)])
    if many_cells(bounds, measures) > MOST_CELLS:
        raise TooMany(MOST_CELLS)
    one = widened(one, bounds, measures)
    other = widened(other, bounds, measures)
    rows = tuple([row + further for row, further in zip(one.rows, other.rows)])
    return table_of_any(bounds, measures, rows)


def behind(table, other):
    """The results of the other for the input that is the tuple of the table's results."""
    if len(other.bounds) != _many_results(table):
        raise OtherShape()
    bounds = list(table.bounds)
    measures = list(table.measures)
    for at, (bound, measure) in enumerate(zip(other.bounds, other.measures)):
        reached = _reached(table, at, bound)
        turned = _turned(table, at, measure)
        bounds = [max(pair) for pair in zip(bounds, reached)]
        measures = [lcm(here, there) for here, there in zip(measures, turned)]
    return _built(bounds, measures, lambda entered: value(other, value(table, entered)))


def _reached(table, at, number):
    """The least bounds from which on the result at is nowhere less than a number where it grows."""
    found = [0] * len(table.bounds)
    for cell, row in zip(cells(table), table.rows):
        base, steps = row[at]
        for i, step in enumerate(steps):
            if step > 0 and base < number:
                times = -((base - number) // step)
                found[i] = max(found[i], cell[i] + table.measures[i] * (times - 1) + 1)
    return found


def _turned(table, at, number):
    """The least multiples of the measures along which the result at keeps its rest by a number."""
    found = list(table.measures)
    for row in table.rows:
        for i, step in enumerate(row[at][1]):
            found[i] = lcm(found[i], table.measures[i] * (number // gcd(number, step)))
    return found


def picked(table, lot):
    """The results with the indexes of a tuple, in its order."""
    if not isinstance(lot, tuple) or not 1 <= len(lot) <= MOST_RESULTS:
        raise NoIndexes()
    if not all([is_index(at, _many_results(table)) for at in lot]):
        raise NoIndexes()
    rows = tuple([tuple([row[at] for at in lot]) for row in table.rows])
    return least(table_of_any(table.bounds, table.measures, rows))


def summed(table, factors):
    """The sum of the results, each times its factor."""
    if not is_number_tuple(factors, _many_results(table)):
        raise NoNumbers()

    def total(entered):
        return (sum([factor * number for factor, number in zip(factors, value(table, entered))]),)

    return _built(table.bounds, table.measures, total)


def lessened(table, at, number):
    """The result less a number, 0 at least."""
    _ask_index(table, at)
    if not is_number(number):
        raise NoNumber()
    reached = _reached(table, at, number)
    # The least table's bounds are not below these: along one number the result is 0 ahead of them and grows behind.
    if many_cells(reached, [1] * len(reached)) > MOST_CELLS:
        raise TooMany(MOST_CELLS)
    bounds = [max(pair) for pair in zip(table.bounds, reached)]
    return _built(bounds, table.measures, lambda entered: (max(0, value(table, entered)[at] - number),))


def chosen(table, at, one, other):
    """Result one where the result at is 0, else result other."""
    _ask_index(table, at)
    _ask_index(table, one)
    _ask_index(table, other)

    def choice(entered):
        row = value(table, entered)
        return (row[one] if row[at] == 0 else row[other],)

    bounds = [max(pair) for pair in zip(table.bounds, _reached(table, at, 1))]
    return _built(bounds, table.measures, choice)


def quotient(table, at, number):
    """The result divided by a number, downward, and the rest."""
    _ask_index(table, at)
    if not is_number(number) or not 1 <= number <= MOST_DIVISOR:
        raise NoNumber()
    return _built(table.bounds, _turned(table, at, number), lambda entered: divmod(value(table, entered)[at], number))
