import random
import unittest

from spelledways.errors import InvalidKey, InvalidSize, Refused
from spelledways.pages import EMPTY, depth, entries, fresh, is_root
from spelledways.tree import Tree
from spelledways.treewalks import (added, after, before, built, changed, differences, first, joined, last, parted, turned,
                                   without_range)
from tests.common import Case, keys_of, odd_values, random_root, some_roots
from tests.test_pages import WRONG_MOST

LOW_NAMES = ["a" + str(number) for number in range(100, 999)]
HIGH_NAMES = ["x" + str(number) for number in range(100, 999)]


def some_keys(rng, root):
    mine = keys_of(root)
    return ["a", "zz", "k5", "k500_"] + [rng.choice(mine) + tail for tail in ("", "_", "0") if mine]


class NeighboursTest(Case):
    def test_first_last_after_before(self):
        rng = random.Random(21)
        for _, root in some_roots(rng, 8):
            told = entries(root)
            self.same(first(root), told[0] if told else None)
            self.same(last(page=root), told[-1] if told else None)
            for key in some_keys(rng, root) + keys_of(root)[:40]:
                behind = [entry for entry in told if entry[0] > key]
                ahead = [entry for entry in told if entry[0] < key]
                self.same(after(root, key), behind[0] if behind else None)
                self.same(before(page=root, key=key), ahead[-1] if ahead else None)

    def test_wrong_keys(self):
        for call in (after, before):
            for value in odd_values():
                if not isinstance(value, str) or value == "":
                    self.told(InvalidKey, -1, call, EMPTY, value)
            self.told(InvalidKey, 16, call, EMPTY, "a" * 17)
            self.told(InvalidKey, 1, call, EMPTY, "aB")

    def test_a_walk_while_the_tree_changes(self):
        rng = random.Random(22)
        for most in (3, 4, 16):
            tree = Tree(most)
            staying = {"k" + str(number) for number in rng.sample(range(100, 200), 40)}
            for key in staying:
                tree.put(key, 0)
            met = []
            entry = first(tree.root())
            while entry is not None:
                self.assertIn(entry[0], tree)
                met.append(entry[0])
                for _ in range(3):
                    key = "k" + str(rng.randrange(100, 200))
                    if key not in staying:
                        rng.choice([lambda: tree.put(key, 1), lambda: tree.take(key)])()
                if rng.random() < 0.3 and met[-1] not in staying:
                    tree.take(met[-1])
                entry = after(tree.root(), met[-1])
            self.assertEqual(met, sorted(set(met)))
            self.assertTrue(staying <= set(met))


class CutsTest(Case):
    def test_wrong_most_first(self):
        for most in WRONG_MOST:
            self.told(InvalidSize, "most", built, most, ())
            self.told(InvalidSize, "most", built, most, (("a", 1),) * 9)
            self.told(InvalidSize, "most", parted, most, EMPTY, "a")
            self.told(InvalidSize, "most", joined, most, ("leaf", (("b", 0),)), ("leaf", (("a", 0),)))
            self.told(InvalidSize, "most", without_range, most, EMPTY, None, None)
            self.told(InvalidSize, "most", without_range, most, EMPTY, "b", "a")
            self.told(InvalidSize, "most", changed, most, EMPTY, ())

    def test_built(self):
        for most in range(3, 17):
            for many in list(range(60)) + [99, 100, 255, 256, 257, 300, 320]:
                told = tuple((f"k{number:03d}", number) for number in range(many))
                root = built(most=most, entries=told)
                self.assertIs(is_root(most, root), True)
                self.same(entries(root), told)

    def test_parted_and_joined_again(self):
        rng = random.Random(23)
        for most, root in some_roots(rng, 5):
            for key in some_keys(rng, root) + rng.sample(keys_of(root), min(5, len(keys_of(root)))):
                left, right = parted(most, root, key)
                self.assertIs(is_root(most, left), True)
                self.assertIs(is_root(most, right), True)
                self.same(entries(left), tuple(entry for entry in entries(root) if entry[0] < key))
                self.same(entries(right), tuple(entry for entry in entries(root) if entry[0] >= key))
                bound = 4 * depth(root) + 2
                self.assertTrue(fresh(root, left) <= bound and fresh(root, right) <= bound)
                again = joined(most, left, right)
                self.assertIs(is_root(most, again), True)
                self.same(entries(again), entries(root))
        self.assertIs(type(parted(most=3, page=EMPTY, key="a")), tuple)

    def test_parted_at_each_key(self):
        rng = random.Random(27)
        for most, deep in ((3, 5), (4, 4), (5, 3), (16, 2)):
            root = random_root(rng, most, deep)
            for key in keys_of(root):
                for part in parted(most, root, key):
                    self.assertIs(is_root(most, part), True)
                    self.assertTrue(fresh(root, part) <= 4 * depth(root) + 2)

    def test_joined_and_parted_again(self):
        rng = random.Random(24)
        for most, deepest in ((3, 5), (4, 4), (5, 3), (16, 2)):
            for one in range(1, deepest + 1):
                for two in range(1, deepest + 1):
                    for _ in range(6):
                        left, right = random_root(rng, most, one, LOW_NAMES), random_root(rng, most, two, HIGH_NAMES)
                        both = joined(most, left, right)
                        self.assertIs(is_root(most, both), True)
                        self.same(entries(both), entries(left) + entries(right))
                        mine = {repr(page) for root in (left, right) for page in self.pages_in(root)}
                        new = {repr(page) for page in self.pages_in(both)} - mine
                        self.assertTrue(len(new) <= 4 * max(one, two) + 2)
                        if entries(right):
                            ahead, behind = parted(most, both, first(right)[0])
                            self.same((entries(ahead), entries(behind)), (entries(left), entries(right)))

    def pages_in(self, root):
        return [root] + ([page for part in root[2] for page in self.pages_in(part)] if root[0] == "branch" else [])

    def test_wrong_order(self):
        rng = random.Random(25)
        for most, deep in ((3, 1), (3, 3), (4, 4)):
            high = random_root(rng, most, deep, HIGH_NAMES)
            low = random_root(rng, most, 2, LOW_NAMES)
            if keys_of(high):
                self.told(Refused, "order", joined, most, high, low)
                self.told(Refused, "order", joined, most, high, high)
                end = ("leaf", (last(high),))
                self.told(Refused, "order", joined, most=most, left=high, right=end)
        a, b, ab = ("leaf", (("a", 0),)), ("leaf", (("b", 0),)), ("leaf", (("a", 0), ("b", 0)))
        self.same(entries(joined(3, a, b)), ab[1])
        for left, right in ((b, a), (a, a), (ab, b), (a, ab)):
            self.told(Refused, "order", joined, 3, left, right)
        for root in (a, EMPTY):
            self.same(entries(joined(3, root, EMPTY)), root[1])
            self.same(entries(joined(3, EMPTY, root)), root[1])

    def test_without_a_range(self):
        rng = random.Random(26)
        for most, root in some_roots(rng, 5):
            ends = [None, None] + some_keys(rng, root)
            for _ in range(12):
                low, high = rng.choice(ends), rng.choice(ends)
                rest = without_range(most, root, low, high)
                self.assertIs(is_root(most, rest), True)
                self.same(entries(rest), tuple(
                    entry for entry in entries(root)
                    if not ((low is None or low <= entry[0]) and (high is None or entry[0] <= high))))
        root = ("leaf", (("a", 0), ("a0", 0), ("a_", 0), ("b", 0)))
        self.same(entries(without_range(most=4, page=root, low="a", high="a")), (("a0", 0), ("a_", 0), ("b", 0)))
        self.same(without_range(4, root, "b", "a"), root)


class DifferencesTest(Case):
    def test_differences_of_small_roots(self):
        one = ("leaf", (("a", 1), ("b", None), ("c", 0), ("d", (1,)), ("e", "x")))
        two = ("leaf", (("a", True), ("c", False), ("d", (1,)), ("e", "x"), ("f", None)))
        self.same(differences(one=one, other=two), (
            ("a", (1,), (True,)), ("b", (None,), ()), ("c", (0,), (False,)), ("f", (), (None,))))
        self.same(differences(one, one), ())
        self.same(differences(EMPTY, EMPTY), ())

    def test_they_lead_there_and_back(self):
        rng = random.Random(31)
        names = ["k" + str(number) for number in range(300, 620)]
        for most, deep in ((3, 3), (4, 3), (5, 2), (16, 2)):
            for _ in range(12):
                one, two, three = (random_root(rng, most, rng.randint(1, deep), names) for _ in range(3))
                told = differences(one, two)
                self.assertEqual([row[0] for row in told], sorted({row[0] for row in told}))
                plain_one, plain_two = dict(entries(one)), dict(entries(two))
                for key in set(plain_one) | set(plain_two):
                    wanted = tuple((plain[key],) if key in plain else () for plain in (plain_one, plain_two))
                    rows = [row[1:] for row in told if row[0] == key]
                    self.same(rows, [] if repr(wanted[0]) == repr(wanted[1]) else [wanted])
                there, back = changed(most, one, told), changed(most, two, turned(told))
                self.assertTrue(is_root(most, there) and is_root(most, back))
                self.same((entries(there), entries(back)), (entries(two), entries(one)))
                self.same(turned(told), differences(two, one))
                self.same(added(told, differences(two, three)), differences(one, three))
                self.same(added(first=told, second=turned(told)), ())
                self.same(added(told, ()), told)
                self.same(added((), told), told)

    def test_changed_looks_at_later_alone(self):
        root = ("leaf", (("a", 1), ("b", 2)))
        rows = (("a", ("no",), (None,)), ("b", (), ()), ("c", ("x",), ()), ("d", (4,), (5,)))
        self.same(entries(changed(3, root, rows)), (("a", None), ("d", 5)))
        self.same(entries(changed(most=3, page=root, rows=())), root[1])

    def test_added_leaves_out_what_is_alike(self):
        one = (("a", (1,), (2,)), ("b", (), (0,)), ("c", (1,), (0,)))
        two = (("a", (2,), (1,)), ("b", (0,), (False,)), ("c", (0,), (True,)), ("d", (1,), ()))
        self.same(added(one, two), (("b", (), (False,)), ("c", (1,), (True,)), ("d", (1,), ())))
        self.same(turned(rows=(("a", (), (1,)),)), (("a", (1,), ()),))

    def test_trees_may_be_turned_to_nothing(self):
        rng = random.Random(32)
        for most in (3, 16):
            root = random_root(rng, most, 2)
            self.same(changed(most, root, differences(root, EMPTY)), EMPTY)


if __name__ == "__main__":
    unittest.main()
