"""0.2: what an integer, a number and a name are, and that judges judge any object."""

import unittest

from flatrounds.kinds import (
    is_deed, is_deed_tuple, is_dict_of, is_index, is_integer, is_name, is_name_tuple, is_number, is_number_tuple,
    is_round_frame, is_statement)
from oddthings import odder_things

JUDGES = (is_deed, is_deed_tuple, is_integer, is_name, is_name_tuple, is_number, is_round_frame, is_statement)


class TestKinds(unittest.TestCase):
    def test_judges_return_flags_for_any_object(self):
        for judge in JUDGES:
            for thing in odder_things():
                self.assertIs(judge(thing).__class__, bool, (judge, thing))

    def test_integers_and_numbers(self):
        for thing in (0, 1, 10 ** 40, -1, -(10 ** 40)):
            self.assertTrue(is_integer(thing))
            self.assertEqual(is_number(thing), thing >= 0)
        for thing in (True, False, None, 1.0, 0j, "1", b"1", (1,), [1]):
            self.assertFalse(is_integer(thing))
            self.assertFalse(is_number(thing))

    def test_indexes_and_tuples_of_numbers(self):
        for thing in odder_things():
            right = thing.__class__ is int and thing >= 0
            self.assertIs(is_index(thing, 10 ** 41), right)
            self.assertIs(is_index(thing, 0), False)
            self.assertIs(is_number_tuple((1, thing), 2), right)
            self.assertIs(is_number_tuple(thing, 1), False)
        self.assertEqual([is_index(thing, 2) for thing in (0, 1, 2, -1, True)], [True, True, False, False, False])
        for thing, many in (((), 0), ((0,), 1), ((10 ** 40, 5, 0), 3)):
            self.assertIs(is_number_tuple(thing, many), True)
            self.assertIs(is_number_tuple(thing, many + 1), False)
            self.assertIs(is_number_tuple(list(thing), many), False)

    def test_names(self):
        for thing in ("a", "z", "abcdefgh", "zero", "round", "aaaaaaaa"):
            self.assertTrue(is_name(thing))
        for thing in ("", "abcdefghi", "A", "aB", "a1", "a_", "a b", "a\n", "\u00e9", "\u0430", "`", "{", b"a", 1,
                      None, ("a",), ["a"]):
            self.assertFalse(is_name(thing), thing)

    def test_name_tuples(self):
        for thing in ((), ("a",), ("b", "a"), tuple("abcdefghijklmnopqrstuvwxyz")):
            self.assertTrue(is_name_tuple(thing))
        for thing in (("a", "a"), ("a", "b", "a"), ("a", 1), ("a", []), ["a"], "ab", {"a": 1}, None):
            self.assertFalse(is_name_tuple(thing), thing)

    def test_dicts_of_names(self):
        for thing in ({"a": 1, "b": None}, {"b": [], "a": {}}):
            self.assertIs(is_dict_of(("a", "b"), thing), True)
            self.assertIs(is_dict_of({"b": 0, "a": 0}, thing), True)
        for thing in odder_things() + [{"a": 1}, {"a": 1, "c": 1}, {"a": 1, "b": 1, "c": 1}, {"a": 1, b"b": 1}]:
            self.assertIs(is_dict_of(("a", "b"), thing), False)
        self.assertIs(is_dict_of((), {}), True)


if __name__ == "__main__":
    unittest.main()
