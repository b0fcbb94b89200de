"""From programs to tables: the numbers of all names, statement by statement, as forms."""

from flatrounds.errors import NoNumber, NoPlace, TooMany
from flatrounds.kinds import is_index
from flatrounds.naming import Supply
from flatrounds.programs import deeds_in, has_round, is_place, names
from flatrounds.pushes import Powers, push_of
from flatrounds.tables import MOST_CELLS, least, many_cells, table_of_any, widened


def table_at_first(given, every):
    """The least table of the numbers of all names ahead of all statements."""
    many = len(given)
    still = (0,) * many
    units = {name: still[:i] + (1,) + still[i + 1:] for i, name in enumerate(given)}
    row = tuple([(0, units.get(name, still)) for name in every])
    return table_of_any(still, (1,) * many, (row,))


class Sheet:
    """The least table of the numbers of all names, taken from statement to statement of a block."""

    def __init__(self, table, every):
        self._table = table
        self._every = every
        self._waiting = []

    def settled(self):
        """The table behind all statements that were gone through."""
        if self._waiting:
            push = push_of(self._every, tuple(self._waiting))
            pairs = self._pairs(push)
            rows = tuple([_pushed_row(row, pairs) for row in self._table.rows])
            self._table = least(table_of_any(self._table.bounds, self._table.measures, rows))
            self._waiting = []
        return self._table

    def go_through(self, statement):
        """Goes behind a statement; deeds wait for what is behind them, so that many are done at once."""
        if has_round(statement):
            self.settled()
            self._spin(self._every.index(statement[1]), push_of(self._every, statement[2]))
        else:
            self._waiting.append(statement)

    def _pairs(self, push):
        """The pairs of a push in the order of the names, with the indexes of the sources."""
        at = {name: k for k, name in enumerate(self._every)}
        found = []
        for name in self._every:
            source, more = push[name]
            found.append((None if source is None else at[source], more))
        return found

    def _spin(self, at, push):
        """Goes behind a round that is told by the name with this index."""
        powers = Powers(push)
        rates = [powers.rate(name) for name in self._every]
        known = {}
        rows = []
        wide = _parted_for(self._table, at, powers)
        for row in wide.rows:
            times, growth = row[at]
            if times not in known:
                known[times] = self._pairs({name: powers.pair(name, times) for name in self._every})
            pushed_row = _pushed_row(row, known[times])
            rows.append(_grown_row(pushed_row, rates, growth) if any(growth) else pushed_row)
        self._table = least(table_of_any(wide.bounds, wide.measures, tuple(rows)))


def _parted_for(table, at, powers):
    """The table, parted so that in each cell the result at either is fixed or great enough, with its rest kept.

    Great enough is what is at least the push's tail; its rest by the push's turn is kept. Numbers of the input by which
    the result nowhere grows need no parting.
    """
    longest = powers.longest()
    common = powers.common()
    bounds = []
    measures = []
    for i, (bound, measure) in enumerate(zip(table.bounds, table.measures)):
        grows = any([row[at][1][i] > 0 for row in table.rows])
        bounds.append(bound + measure * longest if grows else bound)
        measures.append(measure * common if grows else measure)
    if many_cells(bounds, measures) > MOST_CELLS:
        raise TooMany(MOST_CELLS)
    return widened(table, tuple(bounds), tuple(measures))


def _pushed_row(row, pairs):
    """The forms behind a push, its pairs told by indexes."""
    still = (0,) * len(row[0][1])
    found = []
    for source, more in pairs:
        if source is None:
            found.append((more, still))
        else:
            base, steps = row[source]
            found.append((base + more, steps))
    return tuple(found)


def _grown_row(row, rates, growth):
    """The forms with what each gains, at its rate, by so many times more along each number of the input."""
    found = []
    for (base, steps), (gained, length) in zip(row, rates):
        found.append((base, tuple([step + times * gained // length for step, times in zip(steps, growth)])))
    return tuple(found)


def _table_at(given, every, block, k):
    """The least table of the numbers of all names ahead of the statement k; the whole block is gone through."""
    sheet = Sheet(table_at_first(given, every), every)
    found = None
    for number, statement in enumerate(block):
        if number == k:
            found = sheet.settled()
        sheet.go_through(statement)
    end = sheet.settled()
    return end if found is None else found


def _column(table, at):
    """The least table of one of the results."""
    return least(table_of_any(table.bounds, table.measures, tuple([(row[at],) for row in table.rows])))


def table_of(program):
    """The least table of the results of a program."""
    every = names(program)
    return told_of(_table_at(program.given, every, program.block, len(program.block)), every, program.told)


def told_of(table, every, told):
    """The least table of the results, from that of the numbers of all names at the end."""
    columns = [every.index(name) for name in told]
    rows = tuple([tuple([row[at] for at in columns]) for row in table.rows])
    return least(table_of_any(table.bounds, table.measures, rows))


def table_ahead(program, k):
    """The least table of the numbers of all names, ahead of a statement of the block or at the end."""
    if not is_index(k, len(program.block) + 1):
        raise NoNumber()
    return _table_at(program.given, names(program), program.block, k)


def count_table(program, place):
    """The least table of how often the deed at a place is done."""
    if not is_place(program, place):
        raise NoPlace()
    every = names(program)
    table = _table_at(program.given, every, program.block, place[0])
    if len(place) == 2:
        return _column(table, every.index(program.block[place[0]][1]))
    still = (0,) * len(program.given)
    return table_of_any(still, (1,) * len(still), (((1, still),),))


def deeds_table(program):
    """The least table of how many deeds are done."""
    clock = Supply(names(program)).one()
    every = names(program) + (clock,)
    block = clocked(program.block, clock)
    return _column(_table_at(program.given, every, block, len(block)), len(every) - 1)


def clocked(block, clock):
    """The block with a deed ahead of each statement and of each deed in a round that raises the clock, a name."""
    tick = ("more", clock)
    found = []
    for statement in block:
        found.append(tick)
        if has_round(statement):
            steps = [part for deed in deeds_in(statement) for part in (tick, deed)]
            found.append(statement[:2] + (tuple(steps),))
        else:
            found.append(statement)
    return tuple(found)
