import random
import unittest

from spelledways import pages
from spelledways.errors import InvalidSize
from spelledways.pages import EMPTY, depth, entries, fewest, fresh, greatest, half_of, has, is_root, look, scan, shape
from tests.common import Case, keys_of, nested, odd_values, some_roots

WRONG_MOST = [2, 17, 0, -3, True, False, None, "3", (3,), [3], 10 ** 19, ()]


def leaf(text):
    return ("leaf", tuple((key, 0) for key in text))


def plain_pages(page):
    found = [page]
    if page[0] == "branch":
        for part in page[2]:
            found += plain_pages(part)
    return found


class RootsTest(Case):
    def test_most(self):
        for most in range(3, 17):
            self.same(half_of(most), -(-most // 2))
        for most in WRONG_MOST:
            self.told(InvalidSize, "most", half_of, most)
            self.told(InvalidSize, "most", is_root, most, EMPTY)
            self.told(InvalidSize, "most", is_root, most, None)
            self.told(InvalidSize, "most", fewest, most, 1)
            self.told(InvalidSize, "most", fewest, most, 3)
            self.told(InvalidSize, "most", greatest, most, 1)
            self.told(InvalidSize, "most", greatest, most, 3)
        self.same(half_of(most=5), 3)

    def test_empty(self):
        self.same(EMPTY, ("leaf", ()))
        for most in range(3, 17):
            self.assertIs(is_root(most, EMPTY), True)

    def test_leaves(self):
        for most in (3, 4, 16):
            for many in range(20):
                self.assertIs(is_root(most, leaf("abcdefghijklmnopqrstu"[:many])), many <= most)
        for thing in odd_values():
            self.assertIs(is_root(3, ("leaf", (("a", thing), ("b", thing)))), True)
        wrong = [("leaf", []), ("leaf",), ["leaf", ()], ("leaf", (), ()), ("Leaf", ()), ("leaf", (("a",),)), ("leaf", (["a", 1],)),
                 ("leaf", (("A", 1),)), ("leaf", (("", 1),)), ("leaf", (("a", 1), ("a", 1))), ("leaf", (("b", 1), ("a", 1))),
                 ("leaf", (("a", 1, 2),)), ("leaf", ((1, 2),)), ("leaf", None), ("leaf", ((("a",), 2),)), ("branch", ()),
                 ("leaf", (("a", 1), ("c", 1), ("b", 1)))]
        for value in wrong + odd_values():
            self.assertIs(is_root(4, value), False)

    def test_branches(self):
        ab, cd, ef, gh = leaf("ab"), leaf("cd"), leaf("ef"), leaf("gh")
        for key in ("c", "b0", "bz", "b_______________"):
            self.assertIs(is_root(3, ("branch", (key,), (ab, cd))), True, key)
        for key in ("b", "a", "d", "ca", "", "B", 1, None, True, ("c",), "c" * 17, "c0"):
            self.assertIs(is_root(3, ("branch", (key,), (ab, cd))), False, key)
        self.assertIs(is_root(3, ("branch", ("c", "e"), (ab, cd, ef))), True)
        self.assertIs(is_root(3, ("branch", ("c", "e", "g"), (ab, cd, ef, gh))), False)
        self.assertIs(is_root(4, ("branch", ("c", "e", "g"), (ab, cd, ef, gh))), True)
        wrong = [("branch", (), (ab,)), ("branch", (), ()), ("branch", ("c",), (ab,)), ("branch", ("c",), (ab, cd, ef)),
                 ("branch", ("c", "e"), (ab, cd)), ("branch", ["c"], (ab, cd)), ("branch", ("c",), [ab, cd]),
                 ("branch", ("c",), (cd, ab)), ("branch", ("c",), (ab, leaf("c"))), ("branch", ("c",), (leaf("a"), cd)),
                 ("branch", ("c",), (ab, leaf("cdef"))), ("branch", ("c",), (ab, leaf(""))), ("branch", ("c",), (ab, None)),
                 ("branch", ("c",), (ab, list(cd))), ["branch", ("c",), (ab, cd)], ("branch", ("c",), (ab, cd), ()),
                 ("leaf", ("c",), (ab, cd)), ("branch", ("c", "c"), (ab, cd, ef)), ("branch", ("e", "c"), (ab, cd, ef)),
                 ("branch", "c", (ab, cd)), ("branch", ("c",), (ab, ab))]
        for value in wrong:
            self.assertIs(is_root(3, value), False, value)
        one, two = ("branch", ("c",), (ab, cd)), ("branch", ("g",), (ef, gh))
        self.assertIs(is_root(3, ("branch", ("e",), (one, two))), True)
        self.assertIs(is_root(4, ("branch", ("e",), (one, two))), True)
        self.assertIs(is_root(5, ("branch", ("e",), (one, two))), False)
        self.assertIs(is_root(3, ("branch", ("e",), (one, ef))), False)
        self.assertIs(is_root(3, ("branch", ("e",), (ab, two))), False)
        self.assertIs(is_root(3, ("branch", ("d",), (one, two))), False)
        self.assertIs(is_root(3, ("branch", ("e0",), (one, two))), False)
        self.assertIs(is_root(3, ("branch", ("e",), (("branch", (), (ab,)), two))), False)

    def test_a_branch_below_the_root_has_at_least_half(self):
        lots = ["ab", "cd", "ef", "gh", "ij", "kl", "mn"]
        for most, one, half in ((3, 2, 2), (4, 2, 2)):
            left = ("branch", ("c",), (leaf("ab"), leaf("cd")))
            right = ("branch", ("g",), (leaf("ef"), leaf("gh")))
            self.assertIs(is_root(most, ("branch", ("e",), (left, right))), True)
        wide = ["abc", "def", "ghi", "jkl", "mno", "pqr"]
        for cut, right in ((3, True), (2, False), (4, False)):
            parts = [wide[:cut], wide[cut:]]
            branches = tuple(("branch", tuple(text[0] for text in part[1:]), tuple(map(leaf, part))) for part in parts)
            self.assertIs(is_root(5, ("branch", (parts[1][0][0],), branches)), right)
        self.assertEqual(len(lots), 7)

    def test_any_value(self):
        for value in odd_values():
            self.assertIs(is_root(3, value), False)
        deep = leaf("ab")
        for _ in range(28):
            deep = ("branch", ("a",), (deep, deep))
        self.assertIs(is_root(3, nested(30, tuple)), False)

    def test_roots_of_any_cut(self):
        rng = random.Random(11)
        for most, root in some_roots(rng, 8):
            self.assertIs(is_root(most, root), True)
            least = min(len(page[-1]) for page in plain_pages(root)[1:] or [root])
            if depth(root) > 1:
                for other in range(3, 17):
                    widest = max(len(page[-1]) for page in plain_pages(root))
                    self.assertIs(is_root(other, root), widest <= other and half_of(other) <= least)


class LooksTest(Case):
    def test_what_a_root_tells(self):
        rng = random.Random(12)
        for _, root in some_roots(rng, 6):
            levels, told = [[root]], []
            while levels[-1][0][0] == "branch":
                levels.append([part for page in levels[-1] for part in page[2]])
            for page in levels[-1]:
                told += page[1]
            self.same(depth(root), len(levels))
            self.same(shape(root), tuple(map(len, levels)))
            self.same(entries(root), tuple(told))
            plain = dict(told)
            for key in ["a", "k", "zz", "k50_", "k5001"] + list(plain):
                self.same(look(root, key), plain.get(key))
                self.assertIs(has(root, key), key in plain)
            for _ in range(30):
                low, high = [rng.choice([None, "a", "k5", "z", "k500_", rng.choice(list(plain) or ["b"])]) for _ in range(2)]
                held = tuple(entry for entry in told
                             if (low is None or low <= entry[0]) and (high is None or entry[0] <= high))
                self.same(scan(root, low, high), held)
                for limit in (0, 1, 2, 3, len(held) - 1, len(held), len(held) + 1, 10 ** 19):
                    if limit >= 0:
                        self.same(scan(root, low, high, limit=limit), held[:limit])
            self.same(scan(root, None, None, limit=None), tuple(told))

    def test_a_thing_may_be_none(self):
        root = ("leaf", (("a", None), ("b", False)))
        self.assertIsNone(look(root, "a"))
        self.assertIs(has(root, "a"), True)
        self.assertIs(look(root, "b"), False)
        self.assertIs(has(root, "c"), False)

    def test_limits(self):
        for limit in (-1, True, False, "1", (), [], (1,), -10 ** 19):
            self.told(InvalidSize, "limit", scan, EMPTY, None, None, limit=limit)
        with self.assertRaises(TypeError):
            scan(EMPTY, None, None, 1)
        with self.assertRaises(TypeError):
            scan(EMPTY)

    def test_fewest_and_greatest(self):
        for most in range(3, 17):
            half = -(-most // 2)
            for deep in range(1, 7):
                self.same(fewest(most, deep), 0 if deep == 1 else 2 * half ** (deep - 1))
                self.same(greatest(most=most, deep=deep), most ** deep)

    def full(self, most, deep, many, top, start=0):
        """The root, or page, with as many things in each page as told, and the number of the next key."""
        if deep == 1:
            return ("leaf", tuple((f"k{start + at:07d}", 0) for at in range(top))), start + top
        parts = []
        for _ in range(top):
            part, start = self.full(most, deep - 1, many, many, start)
            parts.append(part)
        return ("branch", tuple(keys_of(part)[0] for part in parts[1:]), tuple(parts)), start

    def test_both_are_reached(self):
        for most, deepest in ((3, 5), (4, 4), (5, 3), (16, 2)):
            for deep in range(1, deepest + 1):
                half = half_of(most)
                least, many = self.full(most, deep, half, 2 if deep > 1 else 0)
                self.assertIs(is_root(most, least), True)
                self.assertEqual(many, fewest(most, deep))
                widest, many = self.full(most, deep, most, most)
                self.assertIs(is_root(most, widest), True)
                self.assertEqual(many, greatest(most, deep))

    def test_levels_widen(self):
        rng = random.Random(13)
        for most, root in some_roots(rng, 6):
            counts = shape(root)
            self.assertEqual(counts[0], 1)
            for at, (one, two) in enumerate(zip(counts, counts[1:])):
                self.assertTrue((2 if at == 0 else one * half_of(most)) <= two <= one * most)
            self.assertTrue(fewest(most, len(counts)) <= len(entries(root)) <= greatest(most, len(counts)))


class FreshTest(Case):
    def test_fresh_counts_unlike_pages(self):
        ab, cd, ef = leaf("ab"), leaf("cd"), leaf("ef")
        one, two = ("branch", ("c",), (ab, cd)), ("branch", ("c", "e"), (ab, cd, ef))
        self.same(fresh(EMPTY, EMPTY), 0)
        self.same(fresh(one, one), 0)
        self.same(fresh(one, two), 2)
        self.same(fresh(two, one), 1)
        self.same(fresh(one, ab), 0)
        self.same(fresh(EMPTY, one), 3)
        self.same(fresh(old=one, new=("branch", ("b0",), (ab, cd))), 1)

    def test_pages_are_told_apart_by_repr(self):
        one, other = ("leaf", (("a", 1),)), ("leaf", (("a", True),))
        self.same(fresh(one, other), 1)
        self.same(fresh(("leaf", (("a", 0),)), ("leaf", (("a", False),))), 1)
        self.same(fresh(("leaf", (("a", (1, (0,))),)), ("leaf", (("a", (True, (0,))),))), 1)

    def test_beside_sets_of_texts(self):
        rng = random.Random(14)
        roots = [root for _, root in some_roots(rng, 2)]
        for one in roots:
            for other in rng.sample(roots, 5):
                texts = {repr(page) for page in plain_pages(one)}
                self.same(fresh(one, other), len({repr(page) for page in plain_pages(other)} - texts))

    def test_parameters(self):
        root = leaf("ab")
        self.same(depth(page=root), 1)
        self.same(shape(page=root), (1,))
        self.same(entries(page=root), root[1])
        self.same(look(page=root, key="a"), 0)
        self.assertIs(has(page=root, key="a"), True)
        self.same(scan(page=root, low="b", high=None, limit=3), (("b", 0),))
        self.assertIs(is_root(most=3, value=root), True)
        self.same(pages.fewest(most=3, deep=2), 4)


if __name__ == "__main__":
    unittest.main()
