import itertools
import random
import unittest

from spelledways import keys
from spelledways.errors import InvalidKey, InvalidRange, InvalidValue
from spelledways.keys import (cover, entries_in, in_range, is_empty_range, is_entry, is_key, is_map, is_value, map_of,
                              meets, need_key, need_map, need_range, need_value, put_in_map, value_in)
from tests.common import Case, odd_values

LIMIT = 10 ** 18
SIGNS_OF_KEYS = [sign for sign in map(chr, range(300)) if sign in "0123456789_" or "a" <= sign <= "z"]


class KeysTest(Case):
    def test_right_keys(self):
        for key in ("a", "0", "_", "a1", "z" * 16, "_b_kind_a", "0123456789_", "abcdefghijklmnop", "qrstuvwxyz"):
            self.assertIs(is_key(key), True)
            self.assertIsNone(need_key(key))

    def test_wrong_keys(self):
        cases = [("", -1), ("A", 0), ("aB", 1), ("a-", 1), ("a" * 17, 16), ("a" * 15 + "A", 15), ("a" * 16 + "A", 16),
                 ("a" * 3 + "A" + "b" * 30, 3), ("a ", 1), ("\u00e4", 0), ("a\u00b2", 1), ("a\n", 1)]
        for key, at in cases:
            self.assertIs(is_key(key), False)
            self.told(InvalidKey, at, need_key, key)
        for value in odd_values():
            if not isinstance(value, str):
                self.assertIs(is_key(value), False)
                self.told(InvalidKey, -1, need_key, value)

    def test_each_sign_of_a_key(self):
        for sign in map(chr, range(300)):
            self.assertIs(is_key(sign), sign in SIGNS_OF_KEYS, sign)
            self.assertIs(is_key("a" + sign), sign in SIGNS_OF_KEYS, sign)

    def test_right_values(self):
        for value in (0, 1, -1, LIMIT, -LIMIT, "", "x" * 32, "aZ 09_-.:/", "A B"):
            self.assertIs(is_value(value), True)
            self.assertIsNone(need_value(value))

    def test_wrong_values(self):
        cases = [(LIMIT + 1, -1), (-LIMIT - 1, -1), (True, -1), (False, -1), (None, -1), ("x" * 33, 32), ("a" * 31 + "!", 31),
                 ("a" * 32 + "!", 32), ("?", 0), ("ab\n", 2), ("\u00e4", 0), ("%", 0), ((1,), -1), ([1], -1)]
        for value, at in cases:
            self.assertIs(is_value(value), False)
            self.told(InvalidValue, at, need_value, value)
        for value in odd_values():
            if not isinstance(value, (str, int)) or isinstance(value, bool):
                self.told(InvalidValue, -1, need_value, value)

    def test_each_sign_of_a_text(self):
        for sign in map(chr, range(300)):
            right = sign.isascii() and (sign.isalnum() or sign in " _-.:/")
            self.assertIs(is_value("a" + sign), right, sign)

    def test_entries(self):
        for entry in (("a", 1), ("a", ""), ("z" * 16, -LIMIT)):
            self.assertIs(is_entry(entry), True)
        for entry in (["a", 1], ("a",), ("a", 1, 1), ("a", None), ("a", True), ("A", 1), (1, 1), None, "ab", ("", 0)):
            self.assertIs(is_entry(entry), False, entry)
        for value in odd_values():
            self.assertIs(is_entry(value), value == ("x", "y"))

    def test_maps(self):
        for value in ((), (("a", 1),), (("a", 1), ("a0", "x"), ("a_", 2), ("aa", 0), ("b", ""))):
            self.assertIs(is_map(value), True)
            self.assertIsNone(need_map(value))
        cases = [([], -1), (None, -1), ((1,), 0), ((("a", 1), ["b", 1]), 1), ((("a", 1), ("a", 1)), 1),
                 ((("b", 1), ("a", 1)), 1), ((("a", 1), ("b", None), 3), 1), ((("a", 1), ("b", 1), ("ab", 1)), 2),
                 ((("a", True),), 0), ("ab", -1), ((("b", 1), ("a", 1), None), 1)]
        for value, at in cases:
            self.assertIs(is_map(value), False)
            self.told(InvalidValue, at, need_map, value)
        for value in odd_values():
            if value != ():
                self.told(InvalidValue, 0 if isinstance(value, tuple) else -1, need_map, value)

    def test_maps_are_put_and_looked_at(self):
        rng = random.Random(5)
        entries, plain, pairs = (), {}, []
        for _ in range(300):
            key, value = rng.choice("abcdefgh") * rng.randint(1, 2), rng.choice([None, None, 1, 0, "", "x y"])
            pairs.append((key, value))
            entries = put_in_map(entries, key, value)
            plain.pop(key, None)
            if value is not None:
                plain[key] = value
            self.same(entries, tuple(sorted(plain.items(), key=lambda entry: entry[0])))
            self.assertIs(is_map(entries), True)
            self.same(value_in(entries, key), value)
            low, high = rng.choice([None, "a", "cc"]), rng.choice([None, "c", "gg", "a"])
            self.same(entries_in(entries, (low, high)), tuple(
                entry for entry in entries if (low is None or low <= entry[0]) and (high is None or entry[0] <= high)))
        self.same(map_of(pairs), entries)
        self.same(map_of(tuple(pairs)), entries)
        self.same(map_of([]), ())
        self.same(put_in_map((), "a", None), ())
        self.assertIsNone(value_in((("a", 1),), "b"))

    def test_names_of_parameters(self):
        self.same(entries_in(entries=(("a", 1),), bounds=(None, None)), (("a", 1),))
        self.same(value_in(entries=(("a", 1),), key="a"), 1)
        self.same(put_in_map(entries=(), key="a", value=1), (("a", 1),))
        self.same(map_of(pairs=()), ())
        self.same(in_range(bounds=(None, None), key="a"), True)


class RangesTest(Case):
    def test_right_ranges(self):
        for value in ((None, None), ("a", None), (None, "a"), ("b", "a"), ("a", "a")):
            self.assertIsNone(need_range(value))

    def test_wrong_ranges(self):
        cases = [(["a", "b"], -1), (("a",), -1), (("a", "b", "c"), -1), ("ab", -1), (("A", ""), 0), (("a", ""), 1),
                 ((1, None), 0), ((None, True), 1), (((), None), 0), ((None, []), 1), (None, -1), ((False, None), 0)]
        for value, at in cases:
            self.told(InvalidRange, at, need_range, value)
        for value in odd_values():
            at = 0 if isinstance(value, tuple) and len(value) == 2 else -1
            if value not in (("x", "y"), ("a", True)) and not (at == 0 and value[0] in ("row", "leaf")):
                self.told(InvalidRange, at, need_range, value)
            elif value != ("x", "y"):
                self.told(InvalidRange, 1, need_range, value)

    def test_ranges_beside_the_keys_in_them(self):
        some = ["0", "_", "a", "b"]
        ends = [None, "0", "a", "b"]
        for low, high in itertools.product(ends, ends):
            held = [key for key in some if (low is None or key >= low) and (high is None or key <= high)]
            self.assertEqual([key for key in some if in_range((low, high), key)], held)
            self.assertIs(is_empty_range((low, high)), not held)
        for bounds, other in itertools.product(itertools.product(ends, ends), repeat=2):
            one = {key for key in some if in_range(bounds, key)}
            two = {key for key in some if in_range(other, key)}
            self.assertIs(meets(bounds, other), bool(one & two))
            both = cover(bounds, other)
            if not one or not two:
                self.same(both, other if not one else bounds)
            else:
                low = None if None in (bounds[0], other[0]) else min(bounds[0], other[0])
                high = None if None in (bounds[1], other[1]) else max(bounds[1], other[1])
                self.same(both, (low, high))
            self.assertTrue(all(in_range(both, key) for key in one | two))

    def test_bools_of_ranges(self):
        for call in (lambda: in_range(("a", "c"), "b"), lambda: is_empty_range(("b", "a")), lambda: meets(("a", "b"), ("b", None))):
            self.assertIs(call(), True)
        for call in (lambda: in_range(("a", "c"), "d"), lambda: is_empty_range((None, "a")), lambda: meets(("b", "a"), (None, None))):
            self.assertIs(call(), False)

    def test_parameters(self):
        self.assertIs(meets(bounds=("a", "b"), other=("c", "d")), False)
        self.same(cover(bounds=("a", "b"), other=("c", "d")), ("a", "d"))
        self.assertIs(keys.is_empty_range(bounds=("a", "b")), False)


if __name__ == "__main__":
    unittest.main()
