"""Tables: what is told of each input, by cells; and the least of all tables with the same values."""

from flatrounds.errors import BadTable, NoCell, NoInput, NoStretch, OtherShape, TooMany
from flatrounds.kinds import is_number, is_number_tuple

MOST_NUMBERS = 2
MOST_RESULTS = 12
MOST_CELLS = 1000


class Table:
    """A table: the bound and the measure of each number of the input, and a row of forms for each cell, ascending."""

    def __init__(self, bounds, measures, rows):
        if not is_bounds(bounds):
            raise BadTable("bounds", -1)
        if not is_measures(measures, len(bounds)):
            raise BadTable("measures", -1)
        many = many_cells(bounds, measures)
        if many > MOST_CELLS:
            raise BadTable("cells", -1)
        if not isinstance(rows, tuple) or len(rows) != many:
            raise BadTable("rows", -1)
        wrong = _first_wrong_row(bounds, measures, rows)
        if wrong is not None:
            raise BadTable("rows", wrong)
        self.bounds = bounds
        self.measures = measures
        self.rows = rows

    def __eq__(self, other):
        return (isinstance(other, Table) and self.bounds == other.bounds
                and self.measures == other.measures and self.rows == other.rows)


def is_bounds(thing):
    """Whether it is a tuple of bounds."""
    return isinstance(thing, tuple) and len(thing) <= MOST_NUMBERS and is_number_tuple(thing, len(thing))


def is_measures(thing, many):
    """Whether it is a tuple of so many measures."""
    return is_number_tuple(thing, many) and 0 not in thing


def _first_wrong_row(bounds, measures, rows):
    """The index of the first item that is no row, or has not as many forms as the first one, or None."""
    for k, cell in enumerate(grid(bounds, measures)):
        great = _great_in(bounds, cell)
        if not _is_row(rows[k], great) or len(rows[k]) != len(rows[0]):
            return k
    return None


def _is_row(thing, great):
    """Whether it is a tuple of forms of a cell, great telling which numbers are great there."""
    if not isinstance(thing, tuple) or not 1 <= len(thing) <= MOST_RESULTS:
        return False
    return all([_is_form(part, great) for part in thing])


def _is_form(thing, great):
    if not isinstance(thing, tuple) or len(thing) != 2:
        return False
    if not is_number(thing[0]) or not is_number_tuple(thing[1], len(great)):
        return False
    return all([step == 0 or high for step, high in zip(thing[1], great)])


def _great_in(bounds, cell):
    """For each number of the input whether it is great in a cell."""
    return [number >= bound for number, bound in zip(cell, bounds)]


def table_of_any(bounds, measures, rows):
    """The table of right parts, of however many cells and results and with however great numbers."""
    made = Table((), (), (((0, ()),),))
    # Only what callers construct is bounded; what comes of other tables may be greater.
    made.bounds = bounds
    made.measures = measures
    made.rows = rows
    return made


def many_cells(bounds, measures):
    """How many cells there are."""
    many = 1
    for bound, measure in zip(bounds, measures):
        many = many * (bound + measure)
    return many


def grid(bounds, measures):
    """All cells, ascending."""
    found = [()]
    for bound, measure in zip(bounds, measures):
        found = [front + (number,) for front in found for number in range(bound + measure)]
    return found


def raised_cells(bounds, measures, cell):
    """For each number of the input the cell's least input with it raised by its measure, None where it is small."""
    found = []
    for i, number in enumerate(cell):
        great = number >= bounds[i]
        found.append(cell[:i] + (number + measures[i],) + cell[i + 1:] if great else None)
    return found


def sampled(bounds, measures, function):
    """The table whose values are the function's at the least inputs of the cells and behind one step from them.

    The function is given an input and gives a tuple of as many numbers always; it never falls along a step.
    """
    rows = []
    for cell in grid(bounds, measures):
        bases = function(cell)
        behind = [bases if there is None else function(there) for there in raised_cells(bounds, measures, cell)]
        rows.append(tuple([(base, tuple([told[at] - base for told in behind])) for at, base in enumerate(bases)]))
    return table_of_any(bounds, measures, tuple(rows))


def parted(table, entered):
    """The cell of an input, and how often each number is raised by its measure from the cell's least input on.

    Of the first numbers of an input it tells the same for these.
    """
    cell = []
    raised = []
    for number, bound, measure in zip(entered, table.bounds, table.measures):
        times, rest = (0, 0) if number < bound else divmod(number - bound, measure)
        cell.append(number if number < bound else bound + rest)
        raised.append(times)
    return (tuple(cell), raised)


def _row_at(table, cell):
    """The row of a right cell."""
    at = 0
    for number, bound, measure in zip(cell, table.bounds, table.measures):
        at = at * (bound + measure) + number
    return table.rows[at]


def _is_input(table, thing):
    return is_number_tuple(thing, len(table.bounds))


def value(table, entered):
    """The results of an input."""
    if not _is_input(table, entered):
        raise NoInput()
    cell, raised = parted(table, entered)
    row = _row_at(table, cell)
    return tuple([base + sum([step * times for step, times in zip(steps, raised)]) for base, steps in row])


def cell_of(table, entered):
    """The cell of an input."""
    if not _is_input(table, entered):
        raise NoInput()
    return parted(table, entered)[0]


def cells(table):
    """All cells, ascending."""
    return grid(table.bounds, table.measures)


def row_of(table, cell):
    """The forms of a cell."""
    # A cell is its own least input.
    if not _is_input(table, cell) or cell_of(table, cell) != cell:
        raise NoCell()
    return _row_at(table, cell)


def stretched(table, bounds, measures):
    """The table with the same values and these bounds and measures."""
    many = len(table.bounds)
    if not is_number_tuple(bounds, many) or not is_measures(measures, many):
        raise NoStretch()
    if not all([great >= bound for great, bound in zip(bounds, table.bounds)]):
        raise NoStretch()
    if not all([great % measure == 0 for great, measure in zip(measures, table.measures)]):
        raise NoStretch()
    if many_cells(bounds, measures) > MOST_CELLS:
        raise TooMany(MOST_CELLS)
    return widened(table, bounds, measures)


def widened(table, bounds, measures):
    """The table with the same values and these right bounds and measures, of however many cells."""
    factors = [great // measure for great, measure in zip(measures, table.measures)]
    rows = []
    for cell in grid(bounds, measures):
        first, raised = parted(table, cell)
        great = _great_in(bounds, cell)
        scales = [factor if high else 0 for factor, high in zip(factors, great)]
        rows.append(tuple([_raised_form(form, raised, scales) for form in _row_at(table, first)]))
    return table_of_any(bounds, measures, tuple(rows))


def _raised_form(form, raised, scales):
    """The form from a later input of its cell on, with each step taken so many times at once."""
    base, steps = form
    further = base + sum([step * times for step, times in zip(steps, raised)])
    return (further, tuple([step * scale for step, scale in zip(steps, scales)]))


def least(table):
    """The table with the same values, and as small bounds and measures as can be."""
    for i in range(len(table.bounds)):
        table = _least_along(table, i)
    return table


def _least_along(table, i):
    """The table with as small a bound and measure as can be for the number i of the input."""
    slices = _shortened(_slices(table, i), table.bounds[i], i)
    measure = len(slices) - table.bounds[i]
    bound = _lowered(slices, table.bounds[i], i)
    if measure == table.measures[i] and bound == table.bounds[i]:
        return table
    kept = slices[:bound + measure]
    if i == 0:
        rows = [row for part in kept for row in part]
    else:
        rows = [part[k] for k in range(len(kept[0])) for part in kept]
    bounds = table.bounds[:i] + (bound,) + table.bounds[i + 1:]
    measures = table.measures[:i] + (measure,) + table.measures[i + 1:]
    return table_of_any(bounds, measures, tuple(rows))


def _slices(table, i):
    """For each number that cells have as their number i the list of the rows of these cells."""
    size = table.bounds[i] + table.measures[i]
    if i > 0:
        return [list(table.rows[number::size]) for number in range(size)]
    width = len(table.rows) // size
    return [list(table.rows[number * width:(number + 1) * width]) for number in range(size)]


def _shortened(slices, bound, i):
    """The slices with the least measure that will do: it is divided by each number, as often as that goes."""
    measure = len(slices) - bound
    by = 2
    while by <= measure:
        if measure % by == 0 and _has_measure(slices, bound, measure // by, i):
            measure = measure // by
            slices = [_shared(rows, by, i) for rows in slices[:bound + measure]]
        else:
            by += 1
    return slices


def _has_measure(slices, bound, shorter, i):
    """Whether a measure that divides the slices' measure will do, too."""
    share = (len(slices) - bound) // shorter
    # What leads around from the last of these to the first again follows from all others.
    for k in range(bound, len(slices) - shorter):
        if not _leads_to(slices[k], slices[k + shorter], share, i):
            return False
    return True


def _leads_to(low, high, share, i):
    """Whether all forms of a slice come of those of another one by such a share of its step along i."""
    for row, other in zip(low, high):
        for (base, steps), (further, others) in zip(row, other):
            if steps != others or share * (further - base) != steps[i]:
                return False
    return True


def _shared(rows, share, i):
    """The rows with such a share of the steps along i."""
    return [tuple([(base, steps[:i] + (steps[i] // share,) + steps[i + 1:]) for base, steps in row]) for row in rows]


def _lowered(slices, bound, i):
    """The least bound that will do; puts the steps of great cells into those slices that become great."""
    measure = len(slices) - bound
    while bound > 0 and _is_one_ahead(slices[bound - 1], slices[bound - 1 + measure], i):
        bound -= 1
        slices[bound] = [tuple([(form[0], behind[1]) for form, behind in zip(row, other)])
                         for row, other in zip(slices[bound], slices[bound + measure])]
    return bound


def _is_one_ahead(low, high, i):
    """Whether the forms of a slice of small numbers are those of a great one, one step along i ahead of it."""
    for row, other in zip(low, high):
        for (base, steps), (further, others) in zip(row, other):
            if further - base != others[i] or steps[:i] != others[:i] or steps[i + 1:] != others[i + 1:]:
                return False
    return True


def is_least(table):
    """Whether it is the least of the tables with its values."""
    return isinstance(table, Table) and least(table) == table


def same(one, other):
    """Whether two tables have the same values for all inputs."""
    if len(one.bounds) != len(other.bounds) or len(one.rows[0]) != len(other.rows[0]):
        raise OtherShape()
    return least(one) == least(other)
