"""What several tests share: errors that are looked at closely, odd values, and roots of any cut."""

import unittest

from spelledways.errors import InvalidKey
from spelledways.freeing import Keeper
from spelledways.machines import Machine
from spelledways.snapshots import Snapshots
from spelledways.tree import Tree
from spelledways.versions import Versions


class Case(unittest.TestCase):
    def same(self, got, wanted):
        """Equal, and True and 1, lists and tuples told apart."""
        self.assertEqual(repr(got), repr(wanted))

    def told(self, error, kept, call, *args, **more):
        """The call raises just this error, which keeps just this."""
        with self.assertRaises(error) as held:
            call(*args, **more)
        self.assertIs(type(held.exception), error)
        self.assertEqual(repr(list(vars(held.exception).values())), repr([kept]))


def nested(levels, kind):
    """A thing that is nested so deep."""
    thing = kind()
    for _ in range(levels - 1):
        thing = kind([thing])
    return thing


def odd_values():
    """Any values that are seldom right."""
    return [
        None, True, False, -1, 10 ** 19, "", "A", "a b", "a" * 40, "\u00e4", "\u00b2", "\n",
        [], (), (()), [[]], ((),), ("a",), ["a", 1], ("a", True), ("a", 1, 2), (None, None, None, None),
        nested(30, tuple), nested(30, list), ("row", nested(29, list)),
        Tree(3), Versions(), Snapshots(), Keeper(), InvalidKey(3), (Tree(4),), [Tree(4)],
        ("leaf", Tree(3)), (Versions(), Versions()), ("x", "y"), ("leaf",), ("branch", (), ()),
        Machine(("a",), 1, (), 0, ()),
    ]


def random_key(rng):
    return "k" + str(rng.randrange(100, 1000))


def random_shape(rng, most, deep, room, least=None):
    """A nested list of numbers of entries, of so many levels, each lot within its bounds."""
    half = (most + 1) // 2
    if deep == 1:
        low = 0 if least is None else half
        return rng.choice([low, min(most, max(low, 2)), most, rng.randint(low, most)])
    low = 2 if least is None else half
    many = rng.choice([low, rng.randint(low, most)])
    if room < 40:
        many = low
    return [random_shape(rng, most, deep - 1, room // many, half) for _ in range(many)]


def count_shape(cut):
    return cut if isinstance(cut, int) else sum(count_shape(part) for part in cut)


def keys_of(page):
    if page[0] == "leaf":
        return [entry[0] for entry in page[1]]
    return [key for part in page[2] for key in keys_of(part)]


def separator(rng, below, above):
    """A key greater than one, and not greater than another one."""
    tries = [above, below + "_", below + "00", below + "z", above[:3]]
    return rng.choice([key for key in tries if below < key <= above])


def page_of_cut(rng, cut, pairs):
    """The page with this cut; takes its entries from the front of a list."""
    if isinstance(cut, int):
        return ("leaf", tuple(pairs.pop(0) for _ in range(cut)))
    pages = tuple(page_of_cut(rng, part, pairs) for part in cut)
    keys = tuple(separator(rng, keys_of(one)[-1], keys_of(two)[0]) for one, two in zip(pages, pages[1:]))
    return ("branch", keys, pages)


def random_root(rng, most, deep, names=None):
    """A root with so many levels, and any cut."""
    cut = random_shape(rng, most, deep, 300)
    many = count_shape(cut)
    names = names or ["k" + str(number) for number in range(100, 1000)]
    keys = sorted(rng.sample(names, many))
    return page_of_cut(rng, cut, [(key, rng.choice([0, 1, True, None, "x", (1, ("y",))])) for key in keys])


def some_roots(rng, many, names=None):
    """Pairs of a `most` and a root for it, of all depths."""
    found = []
    for _ in range(many):
        for most, deepest in ((3, 6), (4, 6), (5, 4), (16, 2), (7, 3)):
            for deep in range(1, deepest + 1):
                root = random_root(rng, most, deep, names)
                if len(keys_of(root)) <= 300:
                    found.append((most, root))
    return found
