"""Objects of all kinds that a caller may pass where the program judges, and a machine that does deeds one by one."""

from flatrounds.errors import BadProgram, NoPlace
from flatrounds.programs import Program

LESS = Program(("x",), ("y",), (("round", "x", (("copy", "y", "z"), ("more", "z"))),))


def nested(kind, depth):
    """Something nested so deep, of tuples, lists or dicts."""
    thing = "x"
    for _ in range(depth):
        thing = {"x": thing} if kind is dict else kind([thing])
    return thing


def some_function(thing):
    return thing


def odd_things():
    """Objects that are no number, name, place, deed, statement, block, push nor dict of numbers, of any names."""
    generator = (k for k in (1, 2))
    return [
        None, True, False, -1, -(10 ** 40), 10 ** 40,
        "", "X", "a b", "abcdefghi", "x1", "x\n", "\u00e9", "\u0430", " ", "zero", b"x", b"", bytearray(b"x"),
        memoryview(b"x"), (), (None,), (True,), (-1,), (0, 0, 0), (0, True), (("x",),), ("zero",), ("zero", "X"),
        ("more", b"x"), ("copy", "x"), ("round", "x"), ("round", "x", []), ("round", "x", (("round", "x", ()),)),
        ["zero", "x"], [("zero", "x")], ([],), ({},), ({}, "x"), [], [0], ["x"], {}, {"x": 0.5}, {"x": None},
        {"x": []}, {None: 1}, {1: ("x", 0)}, {("x",): ("x", 0)}, {b"x": 0}, {"x": {}}, {"x": ["x", 0]},
        range(3), slice(1, 2), Ellipsis, NotImplemented, int, tuple, object, object(), len, "x".upper, some_function,
        lambda: 0, generator, iter([1]), iter(()), {}.keys(), {"x": ("x", 0)}.items(), reversed([0]), enumerate("x"),
        zip("x", "x"), map(len, ["x"]), property(), ValueError("x"), ValueError, StopIteration(), staticmethod(len),
        nested(tuple, 40), nested(list, 40), nested(dict, 40), (nested(tuple, 39), 0), {"x": nested(tuple, 39)},
        LESS, Program, (LESS,), [LESS], {"x": LESS}, (LESS, 0), ("zero", LESS), (0, LESS),
        BadProgram("size"), BadProgram, NoPlace(), (NoPlace(),),
    ]


def odder_things():
    """More, for judges, which take any object at all."""
    return odd_things() + [0.0, 1.5, float("nan"), float("inf"), 1j, set(), {"x"}, frozenset(), frozenset(["x"])]


def done_deeds(deeds, numbers):
    """The numbers behind deeds that are done one by one."""
    numbers = dict(numbers)
    for deed in deeds:
        if deed[0] == "zero":
            numbers[deed[1]] = 0
        elif deed[0] == "copy":
            numbers[deed[1]] = numbers[deed[2]]
        elif deed[0] == "more":
            numbers[deed[1]] += 1
        else:
            raise AssertionError(deed)
    return numbers
