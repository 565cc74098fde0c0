import itertools
import random
import unittest

from spelledways.errors import InvalidGraph, InvalidSize
from spelledways.graphs import EMPTY, all_done, done, lines_at
from spelledways.keys import entries_in, is_map, map_of
from spelledways.lines import (graph_of_map, is_graph_map, line_of_key, line_range, lines_in_tree, map_of_graph, tree_of_graph,
                               writes_of_batch, writes_of_deed)
from spelledways.pages import entries, is_root
from tests.common import Case, odd_values
from tests.test_graphs import KINDS, NODES, random_deed, random_graph
from tests.test_pages import WRONG_MOST


def plain_map(graph):
    told = {node: 0 for node in graph[0]}
    for (begin, kind, end), price in graph[1]:
        told["_".join((begin, kind, end))] = price
        told["_" + "_".join((end, kind, begin))] = price
    return told


class MapsTest(Case):
    def test_maps_of_graphs(self):
        rng = random.Random(91)
        for _ in range(100):
            graph = random_graph(rng, rng.randint(0, 14))
            told = map_of_graph(graph)
            self.assertIs(is_map(told), True)
            self.same(told, tuple(sorted(plain_map(graph).items())))
            self.same(graph_of_map(told), graph)
            self.assertIs(is_graph_map(told), True)
            for at in range(len(told)):
                less = told[:at] + told[at + 1:]
                fits = self.fits(less)
                self.assertIs(is_graph_map(less), fits)
                if not fits:
                    self.told(InvalidGraph, self.first_wrong(less), graph_of_map, less)
                other = told[:at] + ((told[at][0], told[at][1] + 1),) + told[at + 1:]
                if other[at][0] in graph[0] or not self.fits(other):
                    self.told(InvalidGraph, self.first_wrong(other), graph_of_map, other)
        self.same(map_of_graph(graph=EMPTY), ())
        self.same(graph_of_map(value=()), EMPTY)

    def fits(self, told):
        return self.first_wrong(told) is None

    def first_wrong(self, told):
        """The first entry that is none of a node or a line, or whose others are not there."""
        table = dict(told)
        for at, (key, value) in enumerate(told):
            parts = key.split("_")
            if len(parts) == 1:
                right = value == 0
            else:
                a, kind, b = parts[-3:]
                other = f"_{b}_{kind}_{a}" if len(parts) == 3 else f"{b}_{kind}_{a}"
                right = table.get(other) == value and a in table and b in table
            if not right:
                return at
        return None

    def test_wrong_maps(self):
        cases = [
            (None, -1), ([], -1), ((("b", 0), ("a", 0)), -1), ((("a", None),), -1), ((("a", True),), -1), ((("a", 0), ["b", 0]), -1),
            ((("a", 1),), 0), ((("a", ""),), 0), ((("a", 0), ("abcde", 0)), 1), ((("a", 0), ("a_x_a", 1)), 1),
            ((("_a_x_a", 1), ("a", 0)), 0), ((("_a_x_a", 1), ("a", 0), ("a_x_a", 2)), 0), ((("_a_x_a", 1), ("a_x_a", 1)), 0),
            ((("_a_x_a", -1), ("a", 0), ("a_x_a", -1)), 0), ((("_a_x_a", 10 ** 6 + 1), ("a", 0), ("a_x_a", 10 ** 6 + 1)), 0),
            ((("_a_x_a", "5"), ("a", 0), ("a_x_a", "5")), 0), ((("_a_x_a", ""), ("a", 0), ("a_x_a", "")), 0),
            ((("_b_x_a", 1), ("a", 0), ("a_x_b", 1)), 0), ((("_b_x_a", 1), ("a_x_b", 1), ("b", 0)), 0),
            ((("_a_x_a", 1), ("a", 5), ("a_x_a", 1)), 1), ((("a", 0), ("a_", 0)), 1), ((("_", 0),), 0), ((("a", 0), ("a__a", 0)), 1),
            ((("a", 0), ("a_x_a_x", 0)), 1), ((("__x_a", 0), ("a", 0)), 0), ((("_a", 0), ("a", 0)), 0), ((("a", 0), ("a_abcde_a", 0)), 1),
            ((("_b_x_a", 1), ("a", 0), ("b", 0), ("b_x_a", 1)), 0)]
        for value, at in cases:
            self.told(InvalidGraph, at, graph_of_map, value)
            self.assertIs(is_graph_map(value), False)
        for value in odd_values():
            self.assertIs(is_graph_map(value), value == ())
            if value != ():
                self.told(InvalidGraph, -1, graph_of_map, value)

    def test_prices_at_the_bound(self):
        graph = all_done(EMPTY, (("line", ("zzzz", "zzzz", "0"), 10 ** 6), ("line", ("a", "x", "a"), 0)))
        self.same(graph_of_map(map_of_graph(graph)), graph)


class WritesTest(Case):
    def test_writes_beside_the_graphs(self):
        rng = random.Random(92)
        for _ in range(120):
            graph = random_graph(rng, rng.randint(0, 10))
            batch = [random_deed(rng, lines=dict(graph[1])) for _ in range(rng.randint(0, 5))]
            self.look_at(graph, all_done(graph, batch), writes_of_batch(graph, rng.choice([list, tuple])(batch)))
            for deed in batch:
                self.look_at(graph, done(graph, deed), writes_of_deed(graph, deed))

    def look_at(self, graph, behind, writes):
        one, two = plain_map(graph), plain_map(behind)
        self.same(writes, tuple((key, two.get(key)) for key in sorted(set(one) | set(two)) if one.get(key) != two.get(key)))
        self.same(map_of(map_of_graph(graph) + writes), map_of_graph(behind))

    def test_what_does_nothing_writes_nothing(self):
        graph = (("a", "b"), ((("a", "x", "b"), 1),))
        self.same(writes_of_batch(graph=graph, batch=()), ())
        self.same(writes_of_batch(graph, [("node", "c"), ("drop", "c")]), ())
        self.same(writes_of_deed(graph=graph, deed=("line", ("a", "x", "b"), 1)), ())
        self.same(writes_of_deed(graph, ("drop", "b")), (("_b_x_a", None), ("a_x_b", None), ("b", None)))


class KeysTest(Case):
    def test_lines_of_keys(self):
        for line in (("a", "x", "b"), ("0", "99", "0"), ("abcd", "efgh", "ijkl")):
            begin, kind, end = line
            self.same(line_of_key(f"{begin}_{kind}_{end}"), (line, 1))
            self.same(line_of_key(f"_{end}_{kind}_{begin}"), (line, -1))
        for key in ("a", "_", "a_b", "_a_b", "a_b_", "_a_b_", "__a_b", "a__b", "a_b_c_d", "_a_b_c_d", "abcde_b_c", "a_b_abcde",
                    "a_abcde_b", "___", "____", "a_b_c_", "_a__b", "__a_b_c"):
            self.same(line_of_key(key), None)
        self.same(line_of_key(key="a_x_b"), (("a", "x", "b"), 1))

    def test_ranges(self):
        self.same(line_range("a", "x", 1), ("a_x_", "a_x_zzzz"))
        self.same(line_range("a", "x", -1), ("_a_x_", "_a_x_zzzz"))
        self.same(line_range("a", None, 1), ("a_", "a_zzzz_zzzz"))
        self.same(line_range(node="a", kind=None, way=-1), ("_a_", "_a_zzzz_zzzz"))

    def test_just_such_lines_lie_in_it(self):
        nodes, kinds = ["0", "a", "a0", "az", "b", "zzzz", "z"], ["0", "x", "x0", "xz", "y", "zzzz"]
        keys = list(nodes)
        for begin, kind, end in itertools.product(nodes, kinds, nodes):
            keys += [f"{begin}_{kind}_{end}", f"_{end}_{kind}_{begin}"]
        entries_of_all = tuple((key, 0) for key in sorted(keys))
        for node, kind, way in itertools.product(nodes, kinds + [None], (1, -1)):
            held = [key for key, _ in entries_in(entries_of_all, line_range(node, kind, way))]
            wanted = [key for key in sorted(keys) if self.is_such(key, node, kind, way)]
            self.assertEqual(held, wanted)

    def is_such(self, key, node, kind, way):
        told = line_of_key(key)
        if told is None or told[1] != way:
            return False
        line = told[0]
        return (line[0] if way == 1 else line[2]) == node and kind in (None, line[1])


class TreesTest(Case):
    def test_lines_in_trees(self):
        rng = random.Random(93)
        for _ in range(40):
            graph = random_graph(rng, rng.randint(0, 25))
            for most in (3, 5, 16):
                page = tree_of_graph(most=most, graph=graph)
                self.assertIs(is_root(most, page), True)
                self.same(entries(page), map_of_graph(graph))
                for node, kind, way in itertools.product(NODES + ["no"], KINDS + [None, "zz"], (1, -1)):
                    self.same(lines_in_tree(page, node, kind, way), lines_at(graph, node, kind, way))
        self.same(lines_in_tree(page=("leaf", ()), node="a", kind=None, way=1), ())

    def test_wrong_most(self):
        for most in WRONG_MOST:
            self.told(InvalidSize, "most", tree_of_graph, most, EMPTY)


if __name__ == "__main__":
    unittest.main()
