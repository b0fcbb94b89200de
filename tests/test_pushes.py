"""3.1: what a push is, and pushes of deeds, one behind another, and many times."""

import itertools
import random
import unittest

from flatrounds.errors import NoDeeds, NoNames, NoNumber, NoNumbers, NoPush, OtherNames
from flatrounds.kinds import is_name
from flatrounds.pushes import is_push, many_times, one_more, push_of, pushed
from oddthings import LESS, done_deeds, nested, odd_things, odder_things
from somepushes import NO_PUSHES, SWAP, all_pushes, done_push, some_pushes

NAMES = ("a", "b", "c")
ALL_DEEDS = ([("zero", x) for x in NAMES] + [("more", x) for x in NAMES]
             + [("copy", x, y) for x in NAMES for y in NAMES])


class TestIsPush(unittest.TestCase):
    def test_right(self):
        for push in (SWAP, {"a": (None, 0)}, {"a": ("a", 10 ** 40)}, {"abcdefgh": (None, 3), "zero": ("abcdefgh", 0)},
                     {"b": ("b", 0), "a": ("b", 1)}):
            self.assertIs(is_push(push), True)
        for push in all_pushes(("a", "b"), (0, 2)):
            self.assertIs(is_push(push), True)

    def test_wrong(self):
        for thing in NO_PUSHES:
            self.assertIs(is_push(thing), False, repr(thing))

    def test_any_object_is_judged(self):
        for thing in odder_things():
            self.assertIs(is_push(thing), False, repr(thing))
            for push in ({"a": thing}, {"a": (thing, 0)}, {"a": (thing, thing)}):
                self.assertIs(is_push(push), push == {"a": (None, 0)}, repr(push))
            right = thing.__class__ is int and thing >= 0
            self.assertIs(is_push({"a": ("a", thing)}), right, repr(thing))

    def test_nothing_is_changed(self):
        thing = {"b": ("a", 0), "a": ["b", 0]}
        is_push(thing)
        self.assertEqual(list(thing.items()), [("b", ("a", 0)), ("a", ["b", 0])])


class TestPushOf(unittest.TestCase):
    def test_against_deeds_done_one_by_one(self):
        numbers = {"a": 100, "b": 2000, "c": 30000, "d": 7}
        for length in range(4):
            for deeds in itertools.product(ALL_DEEDS, repeat=length):
                push = push_of(("a", "b", "c", "d"), deeds)
                self.assertEqual(done_push(push, numbers), done_deeds(deeds, numbers), deeds)

    def test_longer_deeds(self):
        chance = random.Random(7)
        numbers = {"a": 100, "b": 2000, "c": 30000}
        for _ in range(300):
            deeds = tuple(chance.choice(ALL_DEEDS) for _ in range(chance.randint(4, 40)))
            push = push_of(("c", "a", "b"), deeds)
            self.assertTrue(is_push(push))
            self.assertEqual(sorted(push), ["a", "b", "c"])
            self.assertEqual(done_push(push, numbers), done_deeds(deeds, numbers))

    def test_what_it_is(self):
        self.assertEqual(push_of(("a",), ()), {"a": ("a", 0)})
        self.assertEqual(push_of(("a",), (("more", "a"),) * 3), {"a": ("a", 3)})
        self.assertEqual(push_of(("a", "b"), (("more", "a"), ("copy", "b", "a"), ("zero", "a"))),
                         {"a": (None, 0), "b": ("a", 1)})
        self.assertEqual(push_of(("a", "b"), (("copy", "b", "b"),)), {"a": ("a", 0), "b": ("b", 0)})

    def test_no_names(self):
        for names in (("a", "a"), ["a"], "a", None, ("A",), ("a", ""), ("a", 1), ("a", None), ("abcdefghi",), (b"a",),
                      (True,), ([],), ({},), {"a": 0}, 0, LESS, (LESS,), nested(tuple, 40), ()):
            for deeds in ((), (("zero", "b"),), None):
                with self.subTest(names=repr(names)), self.assertRaises(NoNames):
                    push_of(names, deeds)

    def test_no_deeds(self):
        for deeds in ([], [("zero", "a")], None, "zero", ("zero", "a"), (None,), (("zero",),), (("zero", "A"),),
                      (("zero", "a"), ("copy", "a")), (["zero", "a"],), (("round", "a", ()),), (("go", 1),), {}, 0,
                      (("zero", "a"), None), LESS, (LESS,), (("zero", LESS),), (([], "a"),), nested(tuple, 40)):
            with self.subTest(deeds=repr(deeds)), self.assertRaises(NoDeeds):
                push_of(("a", "b"), deeds)

    def test_other_names(self):
        for deed in (("zero", "c"), ("more", "c"), ("copy", "a", "c"), ("copy", "c", "a"), ("copy", "c", "c")):
            for deeds in ((deed,), (("zero", "a"), deed), (deed, ("zero", "a"))):
                with self.subTest(deeds=deeds), self.assertRaises(NoDeeds):
                    push_of(("a", "b"), deeds)

    def test_any_object_is_judged(self):
        for thing in odd_things():
            try:
                push_of(thing, ())
            except NoNames:
                pass
            for deeds in (thing, (thing,), (("zero", thing),)):
                try:
                    self.assertTrue(is_push(push_of(("x", "y"), deeds)))
                except NoDeeds:
                    pass


class TestPushed(unittest.TestCase):
    def test_numbers_behind(self):
        self.assertEqual(pushed(SWAP, {"a": 5, "b": 7, "c": 9}), {"a": 7, "b": 6, "c": 5})
        self.assertEqual(pushed({"a": (None, 4)}, {"a": 10 ** 40}), {"a": 4})
        self.assertEqual(pushed({"a": ("a", 10 ** 39)}, {"a": 9 * 10 ** 39}), {"a": 10 ** 40})
        for push in some_pushes(200):
            numbers = {name: 10 ** k for k, name in enumerate(push)}
            passed, kept = dict(push), dict(numbers)
            self.assertEqual(pushed(push, numbers), done_push(push, numbers))
            self.assertEqual((push, numbers), (passed, kept))

    def test_each_dict_is_new(self):
        numbers = {"a": 1}
        self.assertIsNot(pushed({"a": ("a", 0)}, numbers), numbers)

    def test_no_push(self):
        for push in NO_PUSHES:
            for numbers in ({"a": 0}, None):
                with self.subTest(push=repr(push)), self.assertRaises(NoPush):
                    pushed(push, numbers)

    def test_no_numbers(self):
        for numbers in ({}, {"a": 0}, {"a": 0, "b": 0, "c": 0}, {"a": 0, "c": 0}, {"a": 0, "b": -1}, {"a": 0, "b": True},
                        {"a": 0, "b": None}, {"a": 0, "b": "1"}, {"a": 0, 1: 0}, {"a": 0, b"b": 0}, {"a": 0, None: 0},
                        {"a": 0, "b": []}, {"a": 0, "b": LESS}, (0, 0), [0, 0], "ab", None, 0, LESS,
                        {"a": 0, "b": 0}.items(), nested(dict, 40), {"a": 0, "b": nested(list, 39)}):
            with self.subTest(numbers=repr(numbers)), self.assertRaises(NoNumbers):
                pushed({"a": ("b", 0), "b": (None, 1)}, numbers)

    def test_any_object_is_judged(self):
        for thing in odd_things():
            with self.assertRaises(NoPush):
                pushed(thing, thing)
            with self.assertRaises(NoNumbers):
                pushed({"x": ("x", 0)}, thing)


class TestOneMore(unittest.TestCase):
    def test_first_one_then_the_other(self):
        numbers = {"a": 100, "b": 2000}
        for one in all_pushes(("a", "b"), (0, 3)):
            for other in all_pushes(("b", "a"), (0, 1)):
                passed, kept = dict(one), dict(other)
                both = one_more(one, other)
                self.assertTrue(is_push(both))
                self.assertEqual(done_push(both, numbers), done_push(other, done_push(one, numbers)))
                self.assertEqual((one, other), (passed, kept))
                # A name from nowhere keeps no source.
                for name, (source, _) in both.items():
                    ended = other[name][0] is None or one[other[name][0]][0] is None
                    self.assertEqual(source is None, ended)

    def test_deeds_one_behind_another(self):
        for one in itertools.product(ALL_DEEDS, repeat=2):
            for other in ((("copy", "a", "b"), ("more", "c")), (("zero", "b"), ("copy", "c", "a"))):
                self.assertEqual(one_more(push_of(NAMES, one), push_of(NAMES, other)), push_of(NAMES, one + other))

    def test_no_push_then_other_names(self):
        right = {"a": ("a", 1)}
        for wrong in NO_PUSHES:
            for one, other in ((wrong, right), (right, wrong), (wrong, None), (wrong, {"b": ("b", 0)}),
                               ({"b": ("b", 0)}, wrong)):
                with self.subTest(one=repr(one), other=repr(other)), self.assertRaises(NoPush):
                    one_more(one, other)
        for other in ({"b": ("b", 1)}, {"a": ("a", 1), "b": ("b", 0)}, {"aa": (None, 0)}):
            for pair in ((right, other), (other, right)):
                with self.assertRaises(OtherNames):
                    one_more(*pair)

    def test_any_object_is_judged(self):
        for thing in odd_things():
            for pair in ((thing, SWAP), (SWAP, thing), (thing, thing)):
                with self.assertRaises(NoPush):
                    one_more(*pair)


class TestManyTimes(unittest.TestCase):
    def test_against_one_by_one(self):
        for push in itertools.chain(all_pushes(("a", "b"), (0, 1)), some_pushes(60)):
            passed = dict(push)
            behind = {name: (name, 0) for name in push}
            for many in range(20):
                self.assertEqual(many_times(push, many), behind)
                behind = one_more(behind, push)
            self.assertEqual(push, passed)

    def test_greatest_numbers(self):
        for many in (10 ** 38, 10 ** 38 + 7, 10 ** 39 - 1, 10 ** 40 - 1, 10 ** 40):
            self.assertEqual(many_times({"a": ("a", 3), "b": (None, 2)}, many), {"a": ("a", 3 * many), "b": (None, 2)})
            even = {"a": ("a", many // 2), "b": ("b", many // 2), "c": ("b", many // 2 - 1)}
            odd = {"a": ("b", many // 2), "b": ("a", many // 2 + 1), "c": ("a", many // 2)}
            self.assertEqual(many_times(SWAP, many), odd if many % 2 else even)
            self.assertEqual(many_times({"a": ("a", many)}, many), {"a": ("a", many * many)})
            self.assertEqual(many_times(many_times({"a": ("a", 1)}, many), many), {"a": ("a", many * many)})

    def test_sums_of_times(self):
        for push in some_pushes(40):
            for one, other in ((10 ** 39, 10 ** 38 - 1), (3, 10 ** 40), (0, 12345678901234567890123456789012345678)):
                self.assertEqual(one_more(many_times(push, one), many_times(push, other)),
                                 many_times(push, one + other))

    def test_each_dict_is_new(self):
        push = {"a": ("a", 0)}
        for many in (0, 1, 2):
            behind = many_times(push, many)
            self.assertIsNot(behind, push)
            behind["b"] = None
        self.assertEqual(push, {"a": ("a", 0)})

    def test_many_names(self):
        letters = "abcdefghijklmnopqrstuvwxyz"
        names = [one + other for one in letters for other in letters]
        push = {name: (names[k - 1], 1) for k, name in enumerate(names)}
        self.assertEqual(many_times(push, 26 * 26 * 10 ** 30), {name: (name, 26 * 26 * 10 ** 30) for name in names})

    def test_no_push_then_no_number(self):
        for push in NO_PUSHES:
            for many in (1, None):
                with self.subTest(push=repr(push)), self.assertRaises(NoPush):
                    many_times(push, many)
        for many in (-1, -(10 ** 40), True, False, None, "1", b"1", (1,), [1], {}, LESS, nested(list, 40), range(2)):
            with self.subTest(many=repr(many)), self.assertRaises(NoNumber):
                many_times(SWAP, many)
        for thing in odd_things():
            if thing.__class__ is not int or thing < 0:
                with self.assertRaises(NoNumber):
                    many_times(SWAP, thing)


class TestPushNames(unittest.TestCase):
    def test_names_that_look_like_words(self):
        for name in ("zero", "copy", "more", "round"):
            self.assertTrue(is_name(name))
            self.assertEqual(push_of((name,), (("more", name),)), {name: (name, 1)})


if __name__ == "__main__":
    unittest.main()
