"""Pushes: what deeds without rounds do to all names at once."""

from math import lcm

from flatrounds.errors import NoDeeds, NoName, NoNames, NoNumber, NoNumbers, NoPush, OtherNames
from flatrounds.kinds import is_deed_tuple, is_dict_of, is_name, is_name_tuple, is_number


def is_push(thing):
    """Whether it is a dict from one name or more to pairs of a source and a number."""
    if not isinstance(thing, dict) or len(thing) == 0:
        return False
    if not all([is_name(name) for name in thing]):
        return False
    return all([_is_pair_in(thing, pair) for pair in thing.values()])


def _is_pair_in(push, thing):
    """Whether it is what a name of this push can have."""
    if not isinstance(thing, tuple) or len(thing) != 2:
        return False
    source, more = thing
    return (source is None or _has(push, source)) and is_number(more)


def _has(push, thing):
    """Whether it is a name of the push."""
    return isinstance(thing, str) and thing in push


def _still(names):
    """The push that leaves all names as they are."""
    return {name: (name, 0) for name in names}


def push_of(names, deeds):
    """What deeds do to the names of a tuple."""
    # A push has one name or more, so there is none of no names.
    if not is_name_tuple(names) or len(names) == 0:
        raise NoNames()
    if not is_deed_tuple(deeds):
        raise NoDeeds()
    push = _still(names)
    for deed in deeds:
        if not all([name in push for name in deed[1:]]):
            raise NoDeeds()
        push[deed[1]] = _pair_behind(push, deed)
    return push


def _pair_behind(push, deed):
    """What the first name of a deed has behind it, if the push was done ahead of it."""
    if deed[0] == "zero":
        return (None, 0)
    if deed[0] == "copy":
        return push[deed[2]]
    source, more = push[deed[1]]
    return (source, more + 1)


def pairs_ahead(names, deeds, name):
    """What a name has ahead of each of the deeds, as the pair of a push; all of theirs are among the right names."""
    push = _still(names)
    found = []
    for deed in deeds:
        found.append(push[name])
        push[deed[1]] = _pair_behind(push, deed)
    return found


def pushed(push, numbers):
    """The numbers of all names behind the push."""
    if not is_push(push):
        raise NoPush()
    if not is_dict_of(push, numbers) or not all([is_number(number) for number in numbers.values()]):
        raise NoNumbers()
    behind = {}
    for name, (source, more) in push.items():
        behind[name] = more if source is None else numbers[source] + more
    return behind


def one_more(push, other):
    """The push that does the first one, then the other one."""
    if not is_push(push) or not is_push(other):
        raise NoPush()
    if not is_dict_of(push, other):
        raise OtherNames()
    return _then(push, other)


def _then(push, other):
    behind = {}
    for name, (source, more) in other.items():
        if source is None:
            behind[name] = (None, more)
        else:
            first, less = push[source]
            behind[name] = (first, less + more)
    return behind


def many_times(push, many):
    """The push that does this one so many times."""
    if not is_push(push):
        raise NoPush()
    if not is_number(many):
        raise NoNumber()
    powers = Powers(push)
    return {name: powers.pair(name, many) for name in push}


def _met(push, name, known):
    """The names of a way up to one that is known, each with its index, and the one behind them.

    The one behind is None, or known, or one of them, if the way came to a ring.
    """
    met = {}
    at = name
    while at is not None and at not in met and at not in known:
        met[at] = len(met)
        at = push[at][0]
    return (met, at)


def way(push, name):
    """The pair of the lead and the ring of a name's way."""
    if not is_push(push):
        raise NoPush()
    if not _has(push, name):
        raise NoName()
    met, behind = _met(push, name, {})
    first = len(met) if behind is None else met[behind]
    found = tuple(met)
    return (found[:first], found[first:])


def gain(push, name):
    """By how much a name's ring raises a number that goes once around."""
    _, ring = way(push, name)
    return sum([push[at][1] for at in ring])


class Powers:
    """A right push made ready for being done many times: where each name stands on its way.

    Posts tell of each name how many names its way has ahead of a ring or of its end, by what these raise it in all, and
    the name at which the way comes to the ring, or None. Spots tell of each name of a ring the ring, the sums of what
    it raises by, gone around twice, and the name's index. Each name is gone through once, however long the ways are.
    """

    def __init__(self, push):
        self.push = push
        self.posts = {}
        self.spots = {}
        for name in push:
            self._post(name)

    def _post(self, name):
        met, behind = _met(self.push, name, self.posts)
        path = list(met)
        if behind in met:
            first = met[behind]
            self._spot(path[first:])
            path = path[:first]
        ahead, total, entry = (0, 0, None) if behind is None else self.posts[behind]
        for at in reversed(path):
            ahead += 1
            total += self.push[at][1]
            self.posts[at] = (ahead, total, entry)

    def _spot(self, ring):
        sums = [0]
        for at in ring + ring:
            sums.append(sums[-1] + self.push[at][1])
        for k, at in enumerate(ring):
            self.spots[at] = (ring, sums, k)
            self.posts[at] = (0, 0, at)

    def pair(self, name, many):
        """The source of a name and what it is raised by, if the push is done so many times."""
        ahead, total, entry = self.posts[name]
        if many < ahead:
            return self._walked(name, many)
        if entry is None:
            return (None, total)
        ring, sums, k = self.spots[entry]
        rounds, rest = divmod(many - ahead, len(ring))
        gone = k + rest
        return (ring[gone % len(ring)], total + rounds * sums[len(ring)] + sums[gone] - sums[k])

    def _walked(self, name, many):
        more = 0
        for _ in range(many):
            name, step = self.push[name]
            more += step
        return (name, more)

    def rate(self, name):
        """By how much the name is raised in as many times as its ring has names, and how many these are."""
        entry = self.posts[name][2]
        if entry is None:
            return (0, 1)
        ring, sums, _ = self.spots[entry]
        return (sums[len(ring)], len(ring))

    def longest(self):
        """The greatest length of a lead."""
        return max([post[0] for post in self.posts.values()])

    def common(self):
        """The least common multiple of the lengths of all rings."""
        found = 1
        for ring, _, k in self.spots.values():
            if k == 0:
                found = lcm(found, len(ring))
        return found


def tail(push):
    """The greatest length of a lead."""
    if not is_push(push):
        raise NoPush()
    return Powers(push).longest()


def turn(push):
    """The least common multiple of the lengths of all rings."""
    if not is_push(push):
        raise NoPush()
    return Powers(push).common()


def deeds_of(push, spare):
    """Deeds that do the push, for which the spare name may get any number."""
    if not is_push(push):
        raise NoPush()
    if not is_name(spare) or spare in push:
        raise NoName()
    # Equal pushes give equal deeds only if the order of the dict's keys does not matter.
    ordered = sorted(push)
    sources = {name: push[name][0] for name in ordered if push[name][0] != name}
    deeds = _loose_deeds(sources)
    done = {deed[1]: True for deed in deeds}
    rings = {name: source for name, source in sources.items() if name not in done}
    deeds.extend(_ring_deeds(rings, spare))
    for name in ordered:
        deeds.extend([("more", name)] * push[name][1])
    return tuple(deeds)


def _loose_deeds(sources):
    """Deeds for all names but those on rings: each when no other name needs its number any more."""
    needs = {}
    for source in sources.values():
        needs[source] = needs.get(source, 0) + 1
    ready = [name for name in sources if name not in needs]
    deeds = []
    while ready:
        name = ready.pop()
        source = sources[name]
        if source is None:
            deeds.append(("zero", name))
            continue
        deeds.append(("copy", name, source))
        needs[source] -= 1
        if needs[source] == 0 and source in sources:
            ready.append(source)
    return deeds


def _ring_deeds(sources, spare):
    """Deeds for names that are all on rings: the spare name keeps the first number of each ring."""
    deeds = []
    done = {}
    for first in sources:
        if first in done:
            continue
        deeds.append(("copy", spare, first))
        at = first
        while sources[at] != first:
            deeds.append(("copy", at, sources[at]))
            done[at] = True
            at = sources[at]
        deeds.append(("copy", at, spare))
        done[at] = True
    return deeds
