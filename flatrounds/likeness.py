"""Likeness: whether programs, or tables, tell the same for all inputs, and which input parts them first."""

from math import lcm

from flatrounds.errors import NoBounds, OtherShape, TooMany
from flatrounds.tables import (
    MOST_CELLS, grid, is_bounds, is_measures, least, many_cells, parted, raised_cells)
from flatrounds.tabling import table_of


def alike(program, other):
    """Whether the results of two programs are the same for all inputs."""
    _ask_shapes(program, other)
    return table_of(program) == table_of(other)


def unlike_input(program, other):
    """The least input for which two programs have unlike results, or None."""
    _ask_shapes(program, other)
    return unlike_value(table_of(program), table_of(other))


def _ask_shapes(program, other):
    if len(program.given) != len(other.given) or len(program.told) != len(other.told):
        raise OtherShape()


def unlike_value(one, other):
    """The least input for which two tables have unlike values, or None."""
    if len(one.bounds) != len(other.bounds) or len(one.rows[0]) != len(other.rows[0]):
        raise OtherShape()
    one = least(one)
    other = least(other)
    if one == other:
        return None
    if len(one.bounds) == 0:
        return ()
    return _least_unlike(one, other)


def _least_unlike(one, other):
    """The least input for which two unlike least tables of inputs of one number or two have unlike values."""
    mosts = _limits(one, other)
    fronts = [()] if len(mosts) == 1 else [(number,) for number in range(mosts[0])]
    found = None
    for front in fronts:
        most = mosts[-1]
        if found is not None:
            # Of inputs with the same sum the one that was found is less.
            most = min(most, sum(found) - sum(front))
        if most <= 0:
            break
        number = _first_unlike(_line(one, front, most), _line(other, front, most))
        if number is not None:
            found = front + (number,)
    return found


def _limits(one, other):
    """For each number of the input what it is below in the least input with unlike values.

    Such an input exists below b + 2 m (the fourth fact). If p and q are the two measures, values along one number keep
    from b on to a rule that tells each from the 2 p or 2 q ahead of it, so their difference keeps to a rule that tells
    each from the 2 (p + q) ahead of it: if it is 0 at so many, it is 0 at all.
    """
    found = []
    for i, (p, q) in enumerate(zip(one.measures, other.measures)):
        found.append(max(one.bounds[i], other.bounds[i]) + 2 * min(lcm(p, q), p + q))
    return found


def _line(table, front, most):
    """The values of all inputs with these numbers in front and a last one below most, as a list."""
    bound = table.bounds[-1]
    measure = table.measures[-1]
    # There is one number in front, or none, so these sums are of one item or none.
    cell, raised = parted(table, front)
    at = sum(cell) * (bound + measure)
    times = sum(raised)
    rows = table.rows[at:at + min(bound + measure, most)]
    found = [tuple([base + steps[0] * times for base, steps in row]) for row in rows]
    for number in range(len(rows), most):
        row = rows[bound + (number - bound) % measure]
        found.append(tuple([old + form[1][-1] for old, form in zip(found[number - measure], row)]))
    return found


def _first_unlike(line, other):
    """The first index at which two lists of the same length are unlike, or None."""
    for number, (here, there) in enumerate(zip(line, other)):
        if here != there:
            return number
    return None


def probes(bounds, measures):
    """The inputs at which tables of these bounds and measures are unlike, if they are, ascending."""
    if not is_bounds(bounds) or not is_measures(measures, len(bounds)):
        raise NoBounds()
    if many_cells(bounds, measures) > MOST_CELLS:
        raise TooMany(MOST_CELLS)
    found = grid(bounds, measures)
    for cell in grid(bounds, measures):
        found.extend([there for there in raised_cells(bounds, measures, cell) if there is not None])
    return sorted(found)
