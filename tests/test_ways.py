"""3.2: ways, gains, tails and turns, and the first fact."""

import itertools
import math
import unittest

from flatrounds.errors import NoName, NoPush
from flatrounds.pushes import gain, many_times, pushed, tail, turn, way
from oddthings import LESS, odd_things
from somepushes import NO_PUSHES, SWAP, all_pushes, some_pushes

LONG = {"a": ("b", 5), "b": ("c", 7), "c": ("d", 1), "d": ("b", 2), "e": ("f", 9), "f": (None, 3), "g": ("g", 4)}


def way_by_hand(push, name):
    """The way, gone far enough to see what comes again."""
    met = []
    while name is not None and len(met) <= 2 * len(push):
        met.append(name)
        name = push[name][0]
    if name is None:
        return tuple(met), ()
    ring = met[len(push):]
    ring = ring[:ring.index(ring[0], 1)] if ring[0] in ring[1:] else ring
    first = min(met.index(one) for one in ring)
    return tuple(met[:first]), tuple(met[first:first + len(ring)])


def pushes():
    return itertools.chain(all_pushes(("a", "b", "c"), (0, 1)), some_pushes(300), [LONG, SWAP])


class TestWays(unittest.TestCase):
    def test_ways(self):
        self.assertEqual(way(LONG, "a"), (("a",), ("b", "c", "d")))
        self.assertEqual(way(LONG, "c"), ((), ("c", "d", "b")))
        self.assertEqual(way(LONG, "e"), (("e", "f"), ()))
        self.assertEqual(way(LONG, "f"), (("f",), ()))
        self.assertEqual(way(LONG, "g"), ((), ("g",)))

    def test_all_ways(self):
        for push in pushes():
            passed = dict(push)
            for name in push:
                self.assertEqual(way(push, name), way_by_hand(push, name), (push, name))
            self.assertEqual(push, passed)

    def test_gains(self):
        self.assertEqual([gain(LONG, name) for name in "abcdefg"], [10, 10, 10, 10, 0, 0, 4])
        for push in pushes():
            for name in push:
                self.assertEqual(gain(push, name), sum(push[one][1] for one in way_by_hand(push, name)[1]))

    def test_tail_and_turn(self):
        self.assertEqual((tail(LONG), turn(LONG)), (2, 3))
        for push, found in (({"a": (None, 1)}, (1, 1)), ({"a": ("a", 1)}, (0, 1)), ({"a": ("b", 0), "b": ("a", 0)}, (0, 2)),
                            ({"a": ("b", 0), "b": ("c", 0), "c": (None, 0)}, (3, 1)),
                            ({"a": ("b", 0), "b": ("c", 0), "c": ("c", 0)}, (2, 1))):
            self.assertEqual((tail(push), turn(push)), found)
        for push in pushes():
            ways = [way_by_hand(push, name) for name in push]
            self.assertEqual(tail(push), max(len(lead) for lead, _ in ways), push)
            self.assertEqual(turn(push), math.lcm(*[len(ring) for _, ring in ways if ring]), push)

    def test_turn_is_a_least_common_multiple(self):
        push = {}
        for ring in ("ab", "cdef", "ghijkl", "mnopqrstu", "vwxyz"):
            for k, name in enumerate(ring):
                push[name] = (ring[k - 1], 1)
        self.assertEqual((tail(push), turn(push)), (0, 180))

    def test_first_fact(self):
        for push in itertools.chain(some_pushes(80), [LONG, SWAP]):
            once, turns = tail(push), turn(push)
            for more in (0, 1, 5, 10 ** 38):
                start = many_times(push, once + more)
                later = many_times(push, once + more + turns)
                for first in (0, 17):
                    numbers = {name: first * 10 ** k for k, name in enumerate(push)}
                    here, there = pushed(start, numbers), pushed(later, numbers)
                    for name in push:
                        ring = way(push, name)[1]
                        fixed = gain(push, name) * turns // len(ring) if ring else 0
                        self.assertEqual(there[name] - here[name], fixed, (push, name))

    def test_the_tail_is_needed(self):
        """With one less than the tail, some name's change depends on its number."""
        for push in [LONG, SWAP, {"a": (None, 0)}, {"a": ("b", 1), "b": (None, 0)}]:
            early = tail(push) - 1
            changes = set()
            for number in (3, 8):
                numbers = {name: number * 10 ** k for k, name in enumerate(push)}
                here = pushed(many_times(push, early), numbers)
                there = pushed(many_times(push, early + turn(push)), numbers)
                changes.add(tuple(there[name] - here[name] for name in push))
            self.assertEqual(len(changes), 2)

    def test_long_ways(self):
        letters = "abcdefghijklmnopqrstuvwxyz"
        names = ["".join(three) for three in itertools.product(letters, repeat=3)]
        chain = {name: (names[k - 1] if k else None, 1) for k, name in enumerate(names)}
        self.assertEqual((tail(chain), turn(chain)), (len(names), 1))
        self.assertEqual(way(chain, "zzz"), (tuple(reversed(names)), ()))
        ring = {**chain, "aaa": ("zzz", 1)}
        self.assertEqual((tail(ring), turn(ring), gain(ring, "mmm")), (0, len(names), len(names)))

    def test_no_push(self):
        for wrong in list(NO_PUSHES) + odd_things():
            for call in (lambda: way(wrong, "a"), lambda: way(wrong, None), lambda: gain(wrong, "a"),
                         lambda: gain(wrong, None), lambda: tail(wrong), lambda: turn(wrong)):
                with self.subTest(wrong=repr(wrong)), self.assertRaises(NoPush):
                    call()

    def test_no_name(self):
        for wrong in ["d", "A", "", "aa", ("a",), ["a"], None, 0, True, b"a", {}, {"a": 1}, LESS, *odd_things()]:
            for ask in (way, gain):
                with self.subTest(wrong=repr(wrong)), self.assertRaises(NoName):
                    ask(SWAP, wrong)


if __name__ == "__main__":
    unittest.main()
