"""Runs of programs: their numbers, their deeds and their moments.

A round is never done deed by deed, for it may be done some 10 ** 40 times: its deeds are a push, and where a number of
its run is looked for, the numbers that a name gets from time to time are a few that grow by fixed steps.
"""

from flatrounds.errors import NoInput, NoMoment, NoName, NoNumber, NoPlace, NoTime
from flatrounds.kinds import is_index, is_number, is_number_tuple
from flatrounds.programs import deeds_in, has_round, is_place, names
from flatrounds.pushes import Powers, pairs_ahead, push_of, way


def results(program, entered):
    """The told numbers at the end of the run of an input."""
    numbers = last(program, entered)
    return tuple([numbers[name] for name in program.told])


def last(program, entered):
    """The numbers of all names at the end."""
    numbers = numbers_at_first(program, entered)
    for statement in program.block:
        _go_through(numbers, statement)
    return numbers


def deeds(program, entered):
    """How many deeds are done."""
    numbers = numbers_at_first(program, entered)
    total = 0
    for statement in program.block:
        total += _length(numbers, statement)
        _go_through(numbers, statement)
    return total


def numbers_at_first(program, entered):
    """The numbers of all names at first."""
    if not is_number_tuple(entered, len(program.given)):
        raise NoInput()
    numbers = {name: 0 for name in names(program)}
    for name, number in zip(program.given, entered):
        numbers[name] = number
    return numbers


def _times(numbers, statement):
    """How many times the deeds in a statement are done, behind these numbers."""
    if has_round(statement):
        return numbers[statement[1]]
    return 0


def _length(numbers, statement):
    """How many deeds a statement does: itself, and those in it."""
    return 1 + _times(numbers, statement) * len(deeds_in(statement))


def _go_through(numbers, statement):
    """Changes the numbers to those behind a statement."""
    if has_round(statement):
        _do_often(numbers, statement[2], numbers[statement[1]])
    else:
        _do(numbers, statement)


def _do(numbers, deed):
    """Changes the numbers to those behind a deed."""
    if deed[0] == "zero":
        numbers[deed[1]] = 0
    elif deed[0] == "copy":
        numbers[deed[1]] = numbers[deed[2]]
    else:
        numbers[deed[1]] += 1


def _do_often(numbers, steps, many):
    """Changes the numbers to those behind deeds that are done so many times."""
    if len(steps) == 0 or many == 0:
        return
    used = _names_of(steps)
    powers = Powers(push_of(used, steps))
    changed = {}
    for name in used:
        source, more = powers.pair(name, many)
        changed[name] = more if source is None else numbers[source] + more
    numbers.update(changed)


def _names_of(steps):
    """The names in a tuple of deeds, as a tuple."""
    return tuple({name: True for step in steps for name in step[1:]})


def _reached(program, entered, moment):
    """Where a moment lies: the statement's index, how many deeds of it are done, and the numbers ahead of it.

    The last moment lies in the statement behind the last one.
    """
    numbers = numbers_at_first(program, entered)
    if not is_number(moment):
        raise NoMoment()
    rest = moment
    for k, statement in enumerate(program.block):
        length = _length(numbers, statement)
        if rest < length:
            return (k, rest, numbers)
        rest -= length
        _go_through(numbers, statement)
    if rest > 0:
        raise NoMoment()
    return (len(program.block), 0, numbers)


def numbers_at(program, entered, moment):
    """The numbers of all names at a moment."""
    k, rest, numbers = _reached(program, entered, moment)
    if rest > 0:
        steps = program.block[k][2]
        many, j = divmod(rest - 1, len(steps))
        _do_often(numbers, steps, many)
        for deed in steps[:j]:
            _do(numbers, deed)
    return numbers


def next_at(program, entered, moment):
    """The place of the deed that is done next, and how many times its round was done; None at the last moment."""
    k, rest, _ = _reached(program, entered, moment)
    if k == len(program.block):
        return None
    if rest == 0:
        return ((k,), 0)
    many, j = divmod(rest - 1, len(program.block[k][2]))
    return ((k, j), many)


def schedule(program, entered, place):
    """When the deed at a place is next: the first moment, how far it is from each to the one behind, and how many."""
    numbers = numbers_at_first(program, entered)
    if not is_place(program, place):
        raise NoPlace()
    start = 0
    for statement in program.block[:place[0]]:
        start += _length(numbers, statement)
        _go_through(numbers, statement)
    if len(place) == 1:
        return (start, 1, 1)
    statement = program.block[place[0]]
    return (start + 1 + place[1], len(statement[2]), _times(numbers, statement))


def done(program, entered, place):
    """How often the deed at a place is done."""
    return schedule(program, entered, place)[2]


def moment_of(program, entered, place, time):
    """The moment at which the deed at a place is next, for this time."""
    first, stride, many = schedule(program, entered, place)
    if not is_index(time, many):
        raise NoTime()
    return first + stride * time


def first_moment(program, entered, name, number):
    """The least moment at which the name has the number, or None."""
    found = sightings(program, entered, name, number, 0)
    return found[0][0] if found else None


def many_moments(program, entered, name, number):
    """At how many moments the name has the number."""
    return sum([many for _, many in sightings(program, entered, name, number, 0)])


def sightings(program, entered, name, number, since):
    """When the name has the number, from a moment on: the least moment and how many, for each statement that has some.

    The statements' moments are those at which they, or deeds in them, are next; the last moment comes behind all.
    """
    numbers = numbers_at_first(program, entered)
    if not isinstance(name, str) or name not in numbers:
        raise NoName()
    if not is_number(number):
        raise NoNumber()
    found = []
    start = 0
    for statement in program.block:
        if numbers[name] == number and start >= since:
            found.append((start, 1))
        if has_round(statement):
            seen = _seen_in_round(numbers, statement, name, number, since - start - 1)
            if seen is not None:
                found.append((start + 1 + seen[0], seen[1]))
        start += _length(numbers, statement)
        _go_through(numbers, statement)
    if numbers[name] == number and start >= since:
        found.append((start, 1))
    return found


def _seen_in_round(numbers, statement, name, number, since):
    """The least moment and how many at which the name has the number ahead of a deed of the round, or None.

    Moments are counted from the round's first deed on here, and none ahead of since are meant.
    """
    steps = statement[2]
    many = numbers[statement[1]]
    used = _names_of(steps)
    if name not in used:
        used = used + (name,)
    push = push_of(used, steps)
    first = None
    total = 0
    for j, (source, more) in enumerate(pairs_ahead(used, steps, name)):
        least = max(0, _upward(since - j, len(steps)))
        for line in _lines(push, numbers, source):
            found = _met_on(line, number - more, least, many)
            if found is not None:
                moment = found[0] * len(steps) + j
                first = moment if first is None else min(first, moment)
                total += found[1]
    return None if first is None else (first, total)


def _upward(number, by):
    """The quotient, rounded upward."""
    return -(-number // by)


def _lines(push, numbers, source):
    """What the source holds after each number of times that the push is done, as lines, each of some of these times.

    A line is (time, stride, number, growth): at this time the number is held, and each stride later it has grown so
    far; a line of stride 0 is of its one time. No source holds 0 always.
    """
    if source is None:
        return [(0, 1, 0, 0)]
    lead, ring = way(push, source)
    found = []
    total = 0
    for time, name in enumerate(lead):
        found.append((time, 0, numbers[name] + total, 0))
        total += push[name][1]
    if len(ring) == 0:
        return found + [(len(lead), 1, total, 0)]
    growth = sum([push[name][1] for name in ring])
    for turned, name in enumerate(ring):
        found.append((len(lead) + turned, len(ring), numbers[name] + total, growth))
        total += push[name][1]
    return found


def _met_on(line, number, least, many):
    """The first time at which a line has the number, and at how many it has; of those from the least on, below many."""
    time, stride, held, growth = line
    if stride == 0:
        return (time, 1) if held == number and least <= time < many else None
    low = max(0, _upward(least - time, stride))
    high = _upward(many - time, stride)
    if growth == 0:
        return (time + low * stride, high - low) if held == number and low < high else None
    at, rest = divmod(number - held, growth)
    return (time + at * stride, 1) if rest == 0 and low <= at < high else None
