import itertools
import random
import unittest

from spelledways.errors import InvalidSize, InvalidWalk, Refused
from spelledways.graphs import steps_at
from spelledways.waysof import (ends_of, is_walk, joined_walks, need_walk, part_walk, step_ends, turned_walk, turned_word,
                                walk_end, walk_key, walk_nodes, walk_price, walk_word, walks_of)
from tests.common import Case, odd_values
from tests.test_graphs import random_graph

AXB, BYA, BXC, CXC = ("a", "x", "b"), ("b", "y", "a"), ("b", "x", "c"), ("c", "x", "c")
GRAPH = (("a", "b", "c", "d"), ((AXB, 5), (BXC, 1), (BYA, 0), (CXC, 7)))


def random_walk(rng, graph, most):
    node = rng.choice(graph[0])
    steps, here = [], node
    for _ in range(rng.randint(0, most)):
        others = steps_at(graph, here)
        if not others:
            break
        steps.append(rng.choice(others))
        here = step_ends(steps[-1])[1]
    return node, tuple(steps)


class FormsTest(Case):
    def test_right_walks(self):
        for walk in (("a", ()), ("d", ()), ("a", ((AXB, 1), (BYA, 1))), ("c", ((CXC, 1), (CXC, -1), (BXC, -1), (AXB, -1))),
                     ("a", ((BYA, -1), (BXC, 1)))):
            self.assertIsNone(need_walk(GRAPH, walk))
            self.assertIs(is_walk(GRAPH, walk), True)

    def test_wrong_walks(self):
        good = (AXB, 1)
        cases = [
            (None, -1), (["a", ()], -1), (("a",), -1), (("a", (), ()), -1), (("a", []), -1), (("e", ()), -1), (("e", (good,)), -1),
            ((None, ()), -1), ((["a"], ()), -1), (("a", None), -1), ((True, ()), -1), ("ab", -1), (("A", ()), -1),
            (("b", (good,)), 0), (("a", ((AXB, -1),)), 0), (("a", ((AXB, True),)), 0), (("a", ((AXB, 0),)), 0), (("a", ((AXB, 2),)), 0),
            (("a", ([AXB, 1],)), 0), (("a", (AXB,)), 0), (("a", ((list(AXB), 1),)), 0), (("a", ((("a", "x", "c"), 1),)), 0),
            (("a", ((("a", "x"), 1),)), 0), (("a", (None,)), 0), (("a", (good, good)), 1), (("a", (good, (BYA, -1))), 1),
            (("a", (good, (AXB, -1), None)), 2), (("a", (good, (BXC, 1), (BXC, 1))), 2), (("a", (good, None, None)), 1),
            (("a", (good + (1,),)), 0), (("a", ((AXB, None),)), 0), (("a", ((AXB, "1"),)), 0), (("d", (good,)), 0)]
        for walk, at in cases:
            self.assertIs(is_walk(GRAPH, walk), False)
            self.told(InvalidWalk, at, need_walk, GRAPH, walk)
        for value in odd_values():
            self.assertIs(is_walk(GRAPH, value), False)
            self.told(InvalidWalk, -1, need_walk, GRAPH, value)
            self.told(InvalidWalk, 0, need_walk, GRAPH, ("a", (value, good)))
            self.told(InvalidWalk, 1, need_walk, graph=GRAPH, value=("a", (good, (BYA, value))))

    def test_a_bent_step_in_each_place(self):
        rng = random.Random(101)
        for _ in range(40):
            graph = random_graph(rng, 12)
            walk = random_walk(rng, graph, 8)
            self.assertIs(is_walk(graph, walk), True)
            for at in range(len(walk[1])):
                line, way = walk[1][at]
                bent = [None, (line, 0), (line, bool(way)), line, [line, way], (line, way, way)]
                if line[0] != line[2]:
                    bent.append((line, -way))
                for step in bent:
                    other = (walk[0], walk[1][:at] + (step,) + walk[1][at + 1:])
                    self.told(InvalidWalk, at, need_walk, graph, other)


class WalksTest(Case):
    def test_what_a_walk_tells(self):
        walk = ("a", ((AXB, 1), (BXC, 1), (CXC, -1), (BXC, -1)))
        self.same(walk_nodes(walk=walk), ("a", "b", "c", "c", "b"))
        self.same(walk_end(walk=walk), "b")
        self.same(walk_word(walk=walk), (("x", 1), ("x", 1), ("x", -1), ("x", -1)))
        self.same(walk_price(graph=GRAPH, walk=walk), 14)
        self.same(walk_key(walk=walk), (4, walk[1]))
        self.same(turned_walk(walk=walk), ("b", ((BXC, 1), (CXC, 1), (BXC, -1), (AXB, -1))))
        self.same(step_ends(step=(AXB, 1)), ("a", "b"))
        self.same(step_ends((AXB, -1)), ("b", "a"))
        self.same(turned_word(word=(("x", 1), ("y", -1))), (("y", 1), ("x", -1)))

    def test_a_walk_without_steps(self):
        walk = ("d", ())
        self.same((walk_nodes(walk), walk_end(walk), walk_word(walk), walk_price(GRAPH, walk), walk_key(walk), turned_walk(walk)),
                  (("d",), "d", (), 0, (0, ()), ("d", ())))
        self.same((turned_word(()), joined_walks(walk, walk), part_walk(walk, 0, 0)), ((), walk, walk))

    def test_random_walks(self):
        rng = random.Random(102)
        for _ in range(150):
            graph = random_graph(rng, rng.randint(3, 14))
            walk, prices = random_walk(rng, graph, 9), dict(graph[1])
            nodes = [walk[0]]
            for line, way in walk[1]:
                self.same(step_ends((line, way)), (line[0], line[2])[::way])
                self.assertEqual(nodes[-1], line[0] if way == 1 else line[2])
                nodes.append(line[2] if way == 1 else line[0])
            self.same((walk_nodes(walk), walk_end(walk)), (tuple(nodes), nodes[-1]))
            self.same(walk_word(walk), tuple((line[1], way) for line, way in walk[1]))
            self.same(walk_price(graph, walk), sum(prices[line] for line, _ in walk[1]))
            back = turned_walk(walk)
            self.assertIs(is_walk(graph, back), True)
            self.same((walk_nodes(back), walk_word(back), turned_walk(back)), (tuple(nodes[::-1]), turned_word(walk_word(walk)), walk))
            for low in range(len(nodes)):
                for high in range(low, len(nodes)):
                    part = part_walk(walk, low, high)
                    self.same(part, (nodes[low], walk[1][low:high]))
                    self.assertIs(is_walk(graph, part), True)
                self.same(joined_walks(part_walk(walk, 0, low), part_walk(walk, low, len(nodes) - 1)), walk)

    def test_joined_apart(self):
        self.told(Refused, "apart", joined_walks, ("a", ()), ("b", ()))
        self.told(Refused, "apart", joined_walks, ("a", ((AXB, 1),)), ("a", ()))
        self.same(joined_walks(one=("a", ((AXB, 1),)), other=("b", ((BXC, 1),))), ("a", ((AXB, 1), (BXC, 1))))

    def test_wrong_parts(self):
        walk = ("a", ((AXB, 1), (BXC, 1)))
        for low, high, word in ((-1, 1, "low"), (3, 3, "low"), (-1, 9, "low"), (1, 0, "high"), (0, 3, "high"), (2, 1, "high"),
                                (0, -1, "high"), (3, 0, "low")):
            self.told(InvalidSize, word, part_walk, walk, low, high)
        self.same(part_walk(walk=walk, low=2, high=2), ("c", ()))


class WordsTest(Case):
    def plain_walks(self, graph, node, word):
        walks = [(node, ())] if node in graph[0] else []
        for letter in word:
            walks = [(node, walk[1] + (step,)) for walk in walks for step in steps_at(graph, walk_end(walk))
                     if (step[0][1], step[1]) == letter]
        return tuple(sorted(walks))

    def test_beside_all_walks(self):
        rng = random.Random(103)
        for _ in range(40):
            graph = random_graph(rng, rng.randint(0, 12), kinds=["x", "x0", "y"])
            letters = list(itertools.product(["x", "x0", "y", "q"], (1, -1)))
            for _ in range(12):
                word = tuple(rng.choice(letters[:6] * 3 + letters) for _ in range(rng.randint(0, 4)))
                ends = {}
                for node in graph[0] + ("none",):
                    walks = self.plain_walks(graph, node, word)
                    self.same(walks_of(graph, node, word), walks)
                    ends[node] = {walk_end(walk) for walk in walks}
                    self.same(ends_of(graph, (node,), word), tuple(sorted(ends[node])))
                some = rng.sample(list(ends), rng.randint(0, len(ends)))
                together = sorted({end for node in some for end in ends[node]})
                self.same(ends_of(graph, rng.choice([list, tuple])(some), word), tuple(together))

    def test_ends_of_nodes_named_twice(self):
        self.same(ends_of(GRAPH, ["c", "a", "a", "e"], ()), ("a", "c"))
        self.same(ends_of(graph=GRAPH, nodes=("b", "b"), word=(("y", 1),)), ("a",))
        self.same(walks_of(graph=GRAPH, node="e", word=()), ())

    def test_a_letter_that_ends_far_too_many_walks(self):
        nodes = tuple("abcdef")
        lines = tuple(((one, "x", two), 1) for one in nodes for two in nodes)
        graph = (nodes, lines + ((("f", "y", "f"), 1),))
        self.same(walks_of(graph, "a", (("x", 1),) * 7 + (("q", 1),)), ())
        self.same(ends_of(graph, ("a",), (("x", 1),) * 8), nodes)
        self.assertEqual(len(walks_of(graph, "a", (("x", 1), ("y", 1), ("x", 1), ("x", 1)))), 36)


if __name__ == "__main__":
    unittest.main()
