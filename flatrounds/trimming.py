"""Trimming: which deeds are never done, and which statements a program does not need."""

from flatrounds.programs import has_round, left_out, names, places
from flatrounds.tables import cells, raised_cells
from flatrounds.tabling import Sheet, count_table, table_at_first, told_of


def never(program):
    """The places of the deeds in rounds that are done for no input, ascending."""
    every = names(program)
    sheet = Sheet(table_at_first(program.given, every), every)
    found = []
    for k, statement in enumerate(program.block):
        if has_round(statement) and not _is_ever_above(sheet.settled(), every.index(statement[1])):
            found.extend([(k, j) for j in range(len(statement[2]))])
        sheet.go_through(statement)
    return found


def _is_ever_above(table, at):
    """Whether the result at is above 0 for some input."""
    for row in table.rows:
        base, steps = row[at]
        if base > 0 or any(steps):
            return True
    return False


def done_input(program, place):
    """The least input for which the deed at a place is done, or None."""
    table = count_table(program, place)
    found = []
    for cell, row in zip(cells(table), table.rows):
        base, steps = row[0]
        if base > 0:
            found.append((sum(cell), cell))
            continue
        # One step more is enough, and the least input takes no more.
        for step, there in zip(steps, raised_cells(table.bounds, table.measures, cell)):
            if step > 0:
                found.append((sum(there), there))
    return min(found)[1] if found else None


def _tables_ahead(program, every):
    """The least tables of the numbers of all names ahead of each statement, and at the end."""
    sheet = Sheet(table_at_first(program.given, every), every)
    found = [sheet.settled()]
    for statement in program.block:
        sheet.go_through(statement)
        found.append(sheet.settled())
    return found


class Trail:
    """The tables along a program, and what becomes of them where something of it is left out.

    The statement of each index stands in a tuple of its own, which is empty if it was left out.
    """

    def __init__(self, program):
        self._every = names(program)
        self._told = program.told
        self._spots = [(statement,) for statement in program.block]
        self._ahead = _tables_ahead(program, self._every)
        self._results = self._results_of(self._ahead[-1])

    def _results_of(self, table):
        return told_of(table, self._every, self._told)

    def is_needless(self, place):
        """Whether the results stay the same for all inputs without the statement at a place."""
        return self._keeps(self._led(place[0], self._left_at(place)))

    def leave_out(self, place):
        """Leaves the statement at a place out, if the results stay the same; tells whether they do.

        Of what stands behind the place no more can be asked then.
        """
        left = self._left_at(place)
        changed = self._led(place[0], left)
        if not self._keeps(changed):
            return False
        self._spots[place[0]] = left
        for at, table in changed.items():
            self._ahead[at] = table
        return True

    def _left_at(self, place):
        """What is left of a statement without what stands at a place."""
        if len(place) == 1:
            return ()
        word, name, steps = self._spots[place[0]][0]
        j = place[1]
        return ((word, name, steps[:j] + steps[j + 1:]),)

    def _led(self, k, left):
        """The tables ahead of rounds and at the end that are others, by index, if this is left of the statement k."""
        sheet = Sheet(self._ahead[k], self._every)
        for statement in left:
            sheet.go_through(statement)
        found = {}
        for at in range(k + 1, len(self._ahead)):
            spot = self._spots[at] if at < len(self._spots) else ()
            if at == len(self._spots) or any([has_round(statement) for statement in spot]):
                table = sheet.settled()
                # From equal tables on all is the same.
                if table == self._ahead[at]:
                    break
                found[at] = table
            for statement in spot:
                sheet.go_through(statement)
        return found

    def _keeps(self, changed):
        """Whether the results are the same where these tables are others."""
        end = len(self._spots)
        return end not in changed or self._results_of(changed[end]) == self._results


def idle(program):
    """The places each of which, by itself, can be left out so that the results stay the same, ascending."""
    trail = Trail(program)
    return [place for place in places(program) if trail.is_needless(place)]


def trimmed(program):
    """What is left if each place, from the last one on, is left out where the results stay the same."""
    trail = Trail(program)
    left = program
    for place in reversed(places(program)):
        if trail.leave_out(place):
            left = left_out(left, place)
    return left
