"""Pushes to test with: wrong ones, all small ones, and some greater ones; and what a push does to numbers."""

import itertools
import random

from oddthings import LESS, nested

SWAP = {"a": ("b", 0), "b": ("a", 1), "c": ("a", 0)}
NO_PUSHES = (
    {}, {"a": ("b", 0)}, {"a": ("a", -1)}, {"a": ("a", True)}, {"a": ("a", None)}, {"a": ("a", "0")}, {"a": ("a",)},
    {"a": ("a", 0, 0)}, {"a": ["a", 0]}, {"a": None}, {"a": "a0"}, {"a": ([], 0)}, {"a": ({}, 0)}, {"a": (0, 0)},
    {"a": (("a",), 0)}, {"a": (b"a", 0)}, {"a": ("A", 0)}, {"A": ("A", 0)}, {"": ("", 0)}, {"abcdefghi": (None, 0)},
    {1: (None, 0)}, {None: (None, 0)}, {b"a": (None, 0)}, {("a",): (None, 0)}, {"a": (None, 0), 1: (None, 0)},
    {"a": (False, 0)}, {"a": ("", 0)}, {"a": (None, 0), "b": ("a", -1)}, {"a": (None, 0), "b": ("c", 1)},
    {"a": ("a", [])}, {"a": ("a", LESS)}, {"a": (LESS, 0)}, {"a": LESS}, [("a", ("a", 0))], (("a", ("a", 0)),),
    (), [], "a", None, True, 0, LESS, nested(dict, 40), nested(tuple, 40), {"a": nested(tuple, 39)})


def all_pushes(names, mores):
    """All pushes of these names with these mores."""
    pairs = list(itertools.product((None, *names), mores))
    for chosen in itertools.product(pairs, repeat=len(names)):
        yield dict(zip(names, chosen))


def some_pushes(many):
    """Pushes of up to 8 names, by chance, but the same ones always."""
    chance = random.Random(31)
    for _ in range(many):
        names = chance.sample("abcdefghij", chance.randint(1, 8))
        yield {name: (chance.choice(names + names + [None]), chance.randint(0, 3)) for name in names}


def done_push(push, numbers):
    return {name: (0 if source is None else numbers[source]) + more for name, (source, more) in push.items()}
