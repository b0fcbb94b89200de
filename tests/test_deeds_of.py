"""3.3: deeds that do a push, done one by one."""

import itertools
import unittest

from flatrounds.errors import NoName, NoPush
from flatrounds.kinds import is_deed_tuple
from flatrounds.programs import Program
from flatrounds.pushes import deeds_of, push_of
from oddthings import LESS, done_deeds, odd_things
from somepushes import NO_PUSHES, SWAP, all_pushes, done_push, some_pushes


class TestDeedsOf(unittest.TestCase):
    def assert_done(self, push, spare):
        passed = dict(push)
        deeds = deeds_of(push, spare)
        self.assertTrue(is_deed_tuple(deeds))
        self.assertEqual(push, passed)
        used = {name for deed in deeds for name in deed[1:]}
        self.assertLessEqual(used, {*push, spare})
        numbers = {name: 1000 ** (k + 1) for k, name in enumerate(push)}
        for first in (0, 77):
            behind = done_deeds(deeds, {**numbers, spare: first})
            del behind[spare]
            self.assertEqual(behind, done_push(push, numbers), (push, deeds))
        whole = push_of((*push, spare), deeds)
        del whole[spare]
        self.assertEqual(whole, push)

    def test_all_small_pushes(self):
        for push in all_pushes(("a", "b", "c"), (0, 2)):
            self.assert_done(push, "s")
        for push in all_pushes(("d", "a", "c", "b"), (0,)):
            self.assert_done(push, "zz")

    def test_greater_pushes(self):
        for push in some_pushes(500):
            self.assert_done(push, "spare")

    def test_many_names_and_mores(self):
        letters = "abcdefghijklmnopqrstuvwxyz"
        names = ["".join(two) for two in itertools.product(letters, repeat=2)]
        self.assert_done({name: (names[k - 1], 0) for k, name in enumerate(names)}, "s")
        self.assert_done({name: (names[k - 1] if k else None, 0) for k, name in enumerate(names)}, "s")
        self.assert_done({name: (names[k // 2], 0) for k, name in enumerate(names)}, "s")
        self.assert_done({"a": ("b", 60), "b": ("a", 40)}, "s")

    def test_the_spare_name_may_be_any_other(self):
        for spare in ("d", "aa", "abcdefgh", "zero"):
            self.assert_done(SWAP, spare)

    def test_deeds_stand_in_programs(self):
        deeds = deeds_of(SWAP, "s")
        program = Program((), ("a",), (*deeds, ("round", "a", deeds)))
        self.assertEqual(program.block[-1][2], deeds)

    def test_nothing_to_do(self):
        self.assert_done({"a": ("a", 0)}, "s")

    def test_equal_pushes_give_equal_deeds(self):
        for push in [SWAP, *some_pushes(50)]:
            found = deeds_of(push, "spare")
            self.assertEqual(deeds_of(dict(reversed(list(push.items()))), "spare"), found)
            self.assertEqual(deeds_of(dict(sorted(push.items())), "spare"), found)

    def test_no_push(self):
        for push in list(NO_PUSHES) + odd_things():
            for spare in ("s", None, "a"):
                with self.subTest(push=repr(push)), self.assertRaises(NoPush):
                    deeds_of(push, spare)

    def test_no_name(self):
        for spare in ("a", "b", "c", "", "S", "abcdefghi", "s1", b"s", None, 0, True, ("s",), ["s"], {}, LESS):
            with self.subTest(spare=repr(spare)), self.assertRaises(NoName):
                deeds_of(SWAP, spare)
        for thing in odd_things():
            if thing != "zero":
                with self.subTest(spare=repr(thing)), self.assertRaises(NoName):
                    deeds_of(SWAP, thing)


if __name__ == "__main__":
    unittest.main()
