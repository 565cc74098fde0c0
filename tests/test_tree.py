import random
import unittest

from spelledways.errors import InvalidKey, InvalidRange, InvalidSize
from spelledways.keys import is_key
from spelledways.pages import EMPTY, depth, entries, fresh, is_root
from spelledways.tree import Tree
from tests.common import Case, odd_values
from tests.test_pages import WRONG_MOST


class TreeTest(Case):
    def test_a_new_tree(self):
        for most in range(3, 17):
            tree = Tree(most=most)
            self.same(tree.root(), EMPTY)
            self.same((tree.most, len(tree), tree.depth(), tree.scan()), (most, 0, 1, ()))
        for most in WRONG_MOST:
            self.told(InvalidSize, "most", Tree, most)

    def test_rows_of_deeds_beside_a_plain_dict(self):
        rng = random.Random(41)
        for most in (3, 4, 5, 16):
            for round_ in range(4):
                tree, plain, roots = Tree(most), {}, []
                keys = ["k" + str(number) for number in range(10, 10 + rng.choice([12, 60, 150]))]
                for at in range(260):
                    key, thing = rng.choice(keys), rng.choice([None, 0, False, True, 1, "", "x", (1, (None,))])
                    old, deep = tree.root(), tree.depth()
                    self.assertIs(tree.has(key), key in plain)
                    self.same(tree.look(key), plain.get(key))
                    chance = rng.random()
                    if chance < (0.72 if at < 150 else 0.35):
                        self.assertIs(tree.put(key, thing), key not in plain)
                        plain[key] = thing
                        self.assertTrue(fresh(old, tree.root()) <= 2 * deep + 1)
                    elif chance < 0.97:
                        self.assertIs(tree.take(key), key in plain)
                        plain.pop(key, None)
                        self.assertTrue(fresh(old, tree.root()) <= 2 * deep + 1)
                    else:
                        low, high = rng.choice([None] + keys), rng.choice([None] + keys)
                        held = [k for k in plain if (low is None or low <= k) and (high is None or k <= high)]
                        if at % 3 == 0 or len(held) < 20:
                            self.same(tree.take_range(low, high), len(held))
                            plain = {k: plain[k] for k in plain if k not in held}
                    self.assertIs(is_root(most, tree.root()), True)
                    self.same(entries(tree.root()), tuple((k, plain[k]) for k in sorted(plain)))
                    self.same(len(tree), len(plain))
                    self.same(tree.depth(), depth(tree.root()))
                    roots.append((tree.root(), repr(tree.root())))
                for root, text in roots:
                    self.assertEqual(repr(root), text)

    def test_scans(self):
        rng = random.Random(42)
        tree, plain = Tree(3), {}
        for _ in range(80):
            key = "k" + str(rng.randrange(100))
            tree.put(key, key)
            plain[key] = key
        for _ in range(200):
            low, high = rng.choice([None, "k3", "k50", "a", "z"]), rng.choice([None, "k3", "k70", "a", "z"])
            limit = rng.choice([None, 0, 1, 5, 1000])
            held = tuple((k, k) for k in sorted(plain) if (low is None or low <= k) and (high is None or k <= high))
            self.same(tree.scan(low, high, limit=limit), held[:limit])
            self.same(tree.scan(high=high, low=low), held)
        self.same(tree.scan("k5")[0], ("k5", "k5") if "k5" in plain else tree.scan("k5")[0])

    def test_wrong_keys(self):
        tree = Tree(3)
        tree.put("a", 1)
        for call in (lambda key: tree.put(key, 2), tree.take, tree.look, tree.has):
            for value in odd_values():
                if not isinstance(value, str) or value == "":
                    self.told(InvalidKey, -1, call, value)
            self.told(InvalidKey, 16, call, "a" * 17)
            self.told(InvalidKey, 2, call, "ab!")
        self.same(tree.root(), ("leaf", (("a", 1),)))

    def test_in(self):
        tree = Tree(3)
        tree.put("x", None)
        self.assertIs("x" in tree, True)
        self.assertIs("y" in tree, False)
        for value in odd_values():
            self.assertIs(value in tree, False)
        tree.take("x")
        self.assertIs("x" in tree, False)
        self.assertFalse(is_key("X") or "X" in tree)

    def test_wrong_ranges_ahead_of_limits(self):
        tree = Tree(3)
        tree.put("a", 1)
        for value in odd_values():
            if value is not None and not (isinstance(value, str) and is_key(value)):
                self.told(InvalidRange, 0, tree.scan, value, value, limit=-1)
                self.told(InvalidRange, 1, tree.scan, None, value, limit=-1)
                self.told(InvalidRange, 1, tree.take_range, "a", value)
                self.told(InvalidRange, 0, tree.take_range, value, value)
        for limit in (-1, True, False, "1", (), []):
            self.told(InvalidSize, "limit", tree.scan, None, None, limit=limit)
            self.told(InvalidSize, "limit", tree.scan, "b", "a", limit=limit)
        self.same(tree.root(), ("leaf", (("a", 1),)))
        with self.assertRaises(TypeError):
            tree.scan(None, None, 1)
        with self.assertRaises(TypeError):
            tree.take_range("a")

    def test_ranges_whose_low_is_above(self):
        tree = Tree(3)
        for key in "abcdefgh":
            tree.put(key, key)
        root = tree.root()
        self.same(tree.take_range("f", "c"), 0)
        self.same(entries(tree.root()), entries(root))
        self.same(tree.scan("f", "c"), ())
        self.same(tree.take_range(low="c", high="c"), 1)
        self.same(tree.take_range(None, None), 7)
        self.same(tree.root(), EMPTY)

    def test_trees_are_not_iterated(self):
        with self.assertRaises(TypeError):
            list(Tree(3))

    def test_parameters(self):
        tree = Tree(4)
        self.assertIs(tree.put(key="a", thing=1), True)
        self.assertIs(tree.put(key="a", thing=2), False)
        self.same(tree.look(key="a"), 2)
        self.assertIs(tree.has(key="a"), True)
        self.assertIs(tree.take(key="a"), True)
        self.assertIs(tree.take(key="a"), False)


if __name__ == "__main__":
    unittest.main()
