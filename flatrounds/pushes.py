"""Pushes: what deeds without rounds do to all names at once."""

from math import lcm

from flatrounds.errors import NoDeeds, NoName, NoNames, NoNumber, NoNumbers, NoPush, OtherNames
from flatrounds.kinds import is_deed_tuple, is_dict_of, is_name, is_name_tuple, is_number


def is_push(thing):
    """Whether it is a dict from one name or more to pairs of a source and a number."""
    if not isinstance(thing, dict) or len(thing) == 0:
        return False
    if not all([is_name(name) for name in thing]):
        return False
    return all([_is_pair_in(thing, pair) for pair in thing.values()])


def _is_pair_in(push, thing):
    """Whether it is what a name of this push can have."""
    if not isinstance(thing, tuple) or len(thing) != 2:
        return False
    source, more = thing
    return (source is None or _has(push, source)) and is_number(more)


def _has(push, thing):
    """Whether it is a name of the push."""
    return isinstance(thing, str) and thing in push


def _still(names):
    """The push that leaves all names as they are."""
    return {name: (name, 0) for name in names}


def push_of(names, deeds):
    """What deeds do to the names of a tuple."""
    # A push has one name or more, so there is none of no names.
    if not is_name_tuple(names) or len(names) == 0:
        raise NoNames()
    if not is_deed_tuple(deeds):
        raise NoDeeds()
    push = _still(names)
    for deed in deeds:
        if not all([name in push for name in deed[1:]]):
            raise NoDeeds()
        push[deed[1]] = _pair_behind(push, deed)
    return push


def _pair_behind(push, deed):
    """What the first name of a deed has behind it, if the push was done ahead of it."""
    if deed[0] == "zero":
        return (None, 0)
    if deed[0] == "copy":
        return push[deed[2]]
    source, more = push[deed[1]]
    return (source, more + 1)


def pushed(push, numbers):
    """The numbers of all names behind the push."""
    if not is_push(push):
        raise NoPush()
    if not is_dict_of(push, numbers) or not all([is_number(number) for number in numbers.values()]):
        raise NoNumbers()
    behind = {}
    for name, (source, more) in push.items():
        behind[name] = more if source is None else numbers[source] + more
    return behind


def one_more(push, other):
    """The push that does the first one, then the other one."""
    if not is_push(push) or not is_push(other):
        raise NoPush()
    if not is_dict_of(push, other):
        raise OtherNames()
    return _then(push, other)


def _then(push, other):
    behind = {}
    for name, (source, more) in other.items():
        if source is None:
            behind[name] = (None, more)
        else:
            first, less = push[source]
            behind[name] = (first, less + more)
    return behind


def many_times(push, many):
    """The push that does this one so many times."""
    if not is_push(push):
        raise NoPush()
    if not is_number(many):
        raise NoNumber()
    behind = _still(push)
    power = push
    left = many
    # The number may have 40 digits, so the push is doubled instead of being done one by one.
    while left > 0:
        if left & 1 == 1:
            behind = _then(behind, power)
        left = left // 2
        if left > 0:
            power = _then(power, power)
    return behind


def _met(push, name, known):
    """The names of a way up to one that is known, each with its index, and the one behind them.

    The one behind is None, or known, or one of them, if the way came to a ring.
    """
    met = {}
    at = name
    while at is not None and at not in met and at not in known:
        met[at] = len(met)
        at = push[at][0]
    return (met, at)


def way(push, name):
    """The pair of the lead and the ring of a name's way."""
    if not is_push(push):
        raise NoPush()
    if not _has(push, name):
        raise NoName()
    met, behind = _met(push, name, {})
    first = len(met) if behind is None else met[behind]
    found = tuple(met)
    return (found[:first], found[first:])


def gain(push, name):
    """By how much a name's ring raises a number that goes once around."""
    _, ring = way(push, name)
    return sum([push[at][1] for at in ring])


def _shape(push):
    """The length of each name's lead as a dict, and the list of the lengths of all rings.

    Each name is gone through once, however long the ways are.
    """
    leads = {}
    rings = []
    for name in push:
        met, behind = _met(push, name, leads)
        path = list(met)
        if behind in met:
            first = met[behind]
            rings.append(len(path) - first)
            for at in path[first:]:
                leads[at] = 0
            path = path[:first]
        length = leads.get(behind, 0)
        for at in reversed(path):
            length += 1
            leads[at] = length
    return (leads, rings)


def tail(push):
    """The greatest length of a lead."""
    if not is_push(push):
        raise NoPush()
    leads, _ = _shape(push)
    return max(leads.values())


def turn(push):
    """The least common multiple of the lengths of all rings."""
    if not is_push(push):
        raise NoPush()
    _, rings = _shape(push)
    common = 1
    for length in rings:
        common = lcm(common, length)
    return common


def deeds_of(push, spare):
    """Deeds that do the push, for which the spare name may get any number."""
    if not is_push(push):
        raise NoPush()
    if not is_name(spare) or spare in push:
        raise NoName()
    # Equal pushes give equal deeds only if the order of the dict's keys does not matter.
    ordered = sorted(push)
    sources = {name: push[name][0] for name in ordered if push[name][0] != name}
    deeds = _loose_deeds(sources)
    done = {deed[1]: True for deed in deeds}
    rings = {name: source for name, source in sources.items() if name not in done}
    deeds.extend(_ring_deeds(rings, spare))
    for name in ordered:
        deeds.extend([("more", name)] * push[name][1])
    return tuple(deeds)


def _loose_deeds(sources):
    """Deeds for all names but those on rings: each when no other name needs its number any more."""
    needs = {}
    for source in sources.values():
        needs[source] = needs.get(source, 0) + 1
    ready = [name for name in sources if name not in needs]
    deeds = []
    while ready:
        name = ready.pop()
        source = sources[name]
        if source is None:
            deeds.append(("zero", name))
            continue
        deeds.append(("copy", name, source))
        needs[source] -= 1
        if needs[source] == 0 and source in sources:
            ready.append(source)
    return deeds


def _ring_deeds(sources, spare):
    """Deeds for names that are all on rings: the spare name keeps the first number of each ring."""
    deeds = []
    done = {}
    for first in sources:
        if first in done:
            continue
        deeds.append(("copy", spare, first))
        at = first
        while sources[at] != first:
            deeds.append(("copy", at, sources[at]))
            done[at] = True
            at = sources[at]
        deeds.append(("copy", at, spare))
        done[at] = True
    return deeds
