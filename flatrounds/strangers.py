"""Strangers: functions of inputs that a table is learned from, or compared with."""

from flatrounds.errors import BadAnswer, Falling, NoBounds, NoInputs, NoNumber, TooMany
from flatrounds.kinds import is_number, is_number_tuple
from flatrounds.likeness import probes
from flatrounds.tables import (
    MOST_CELLS, MOST_RESULTS, grid, is_bounds, is_measures, many_cells, raised_cells, sampled, value)


def learned(function, bounds, measures, many):
    """The table of these bounds and measures with so many results, whose values are a function's at all probes."""
    if not is_bounds(bounds) or not is_measures(measures, len(bounds)):
        raise NoBounds()
    if not is_number(many) or not 1 <= many <= MOST_RESULTS:
        raise NoNumber()
    if many_cells(bounds, measures) > MOST_CELLS:
        raise TooMany(MOST_CELLS)
    answers = {}
    for probe in probes(bounds, measures):
        answer = function(probe)
        if not is_number_tuple(answer, many):
            raise BadAnswer(probe)
        answers[probe] = answer
    fallen = _falling_probes(answers, bounds, measures)
    if len(fallen) > 0:
        raise Falling(min(fallen))
    return sampled(bounds, measures, lambda entered: answers[entered])


def _falling_probes(answers, bounds, measures):
    """The probes one step from a cell's least input at which some result is less than there."""
    found = []
    for cell in grid(bounds, measures):
        for there in raised_cells(bounds, measures, cell):
            if there is not None and any([now < old for now, old in zip(answers[there], answers[cell])]):
                found.append(there)
    return found


def refuted(table, function, inputs):
    """The index of the first of some inputs for which a function gives something else than the value, or None."""
    if not isinstance(inputs, (list, tuple)):
        raise NoInputs()
    if not all([is_number_tuple(entered, len(table.bounds)) for entered in inputs]):
        raise NoInputs()
    for at, entered in enumerate(inputs):
        told = value(table, entered)
        answer = function(entered)
        # A flag is equal to a number, and yet it is none.
        if not is_number_tuple(answer, len(told)) or answer != told:
            return at
    return None
