import random
import unittest

from spelledways.errors import InvalidDeed, InvalidGraph, InvalidLine, NoName
from spelledways.graphs import (EMPTY, all_done, backward, between, done, is_deed, is_graph, is_kind, is_line, is_node,
                                is_price, kinds_of, line_price, lines_at, need_batch, need_deed, need_graph, need_line,
                                next_nodes, part_graph, renamed_graph, steps_at, turned_graph)
from tests.common import Case, odd_values

NODES = ["0", "a", "a0", "aa", "b", "zzzz"]
KINDS = ["0", "x", "x0", "xy", "y"]
SIGNS = "0123456789abcdefghijklmnopqrstuvwxyz"


def random_line(rng, nodes=None, kinds=None):
    nodes, kinds = nodes or NODES, kinds or KINDS
    return (rng.choice(nodes), rng.choice(kinds), rng.choice(nodes))


def random_deed(rng, nodes=None, kinds=None, lines=()):
    nodes = nodes or NODES
    line = rng.choice(list(lines)) if lines and rng.random() < 0.4 else random_line(rng, nodes, kinds)
    return rng.choice([("node", rng.choice(nodes)), ("drop", rng.choice(nodes)), ("cut", line),
                       ("line", line, rng.choice([0, 1, 2, 10 ** 6])), ("line", line, rng.randrange(100))])


def random_graph(rng, many, nodes=None, kinds=None):
    return plain_graph(*plain_done(set(), {}, [("line", random_line(rng, nodes, kinds), rng.randrange(9)) for _ in range(many)]
                                   + [("node", rng.choice(nodes or NODES))]))


def plain_done(nodes, prices, batch):
    """Deeds done on a set of nodes and a dict of prices."""
    nodes, prices = set(nodes), dict(prices)
    for deed in batch:
        if deed[0] == "node":
            nodes.add(deed[1])
        elif deed[0] == "drop":
            nodes.discard(deed[1])
            prices = {line: prices[line] for line in prices if deed[1] not in (line[0], line[2])}
        elif deed[0] == "cut":
            prices.pop(deed[1], None)
        else:
            nodes |= {deed[1][0], deed[1][2]}
            prices[deed[1]] = deed[2]
    return nodes, prices


def plain_graph(nodes, prices):
    return tuple(sorted(nodes)), tuple((line, prices[line]) for line in sorted(prices))


class FormsTest(Case):
    def test_nodes_and_kinds(self):
        for call in (is_node, is_kind):
            for value in ("a", "0", "zzzz", "a0b9", "9999"):
                self.assertIs(call(value), True)
            for value in ("", "A", "a_", "abcde", "a b", "\u00e4", "\u00b2", "a\n", "-", "00000"):
                self.assertIs(call(value), False)
            for value in odd_values():
                self.assertIs(call(value), False)
            for sign in map(chr, range(300)):
                self.assertIs(call(sign), sign in SIGNS)

    def test_prices(self):
        for value in (0, 1, 10 ** 6):
            self.assertIs(is_price(value), True)
        for value in (-1, 10 ** 6 + 1, True, False, None, "1", (), []):
            self.assertIs(is_price(value), False)

    def test_lines(self):
        for value in (("a", "x", "b"), ("a", "x", "a"), ("0", "0", "0")):
            self.assertIs(is_line(value), True)
            self.assertIsNone(need_line(value))
        cases = [(["a", "x", "b"], -1), (("a", "x"), -1), (("a", "x", "b", 1), -1), ("axb", -1), (("", "x", "b"), 0),
                 (("a", "X", "b"), 1), (("a", "x", "abcde"), 2), ((1, None, 3), 0), (("a", None, 3), 1), (("a", "x", []), 2),
                 ((True, "x", "b"), 0)]
        for value, at in cases:
            self.assertIs(is_line(value), False)
            self.told(InvalidLine, at, need_line, value)
        for value in odd_values():
            self.assertIs(is_line(value), False)
            at = {("a", 1, 2): 1, ("branch", (), ()): 0}.get(value, -1) if isinstance(value, tuple) and len(value) == 3 else -1
            self.told(InvalidLine, at, need_line, value)

    def test_graphs(self):
        axb, bya = (("a", "x", "b"), 1), (("b", "y", "a"), 0)
        for value in (EMPTY, (("a",), ()), (("a", "b"), (axb, bya)), (("a",), ((("a", "x", "a"), 5), (("a", "y", "a"), 5)))):
            self.assertIs(is_graph(value), True)
            self.assertIsNone(need_graph(value))
        nodes = ("a", "b")
        cases = [
            ([(), ()], -1), (((), []), -1), (([], ()), -1), (((),), -1), (((), (), ()), -1), ("ab", -1), (("a", ()), -1),
            ((("A",), ()), 0), ((("a", "a"), ()), 1), ((("b", "a"), ()), 1), ((("a", None), (None,)), 1), ((("a", "b", "ab"), ()), 2),
            ((nodes, (axb, axb)), 3), ((nodes, (bya, axb)), 3), ((nodes, (None,)), 2), ((nodes, (list(axb),)), 2),
            ((nodes, (axb[0],)), 2), ((nodes, ((axb[0], -1),)), 2), ((nodes, ((axb[0], True),)), 2), ((nodes, (axb, (bya[0],))), 3),
            ((nodes, ((axb[0], 10 ** 6 + 1),)), 2), ((("a",), (axb,)), 1), ((("b",), (axb,)), 1), ((nodes, (axb, (("b", "y"), 1))), 3),
            ((nodes, (axb, (("a", "x", "b"), 2))), 3), (((), (axb,)), 0), ((nodes, (axb, bya, 5)), 4), ((nodes, (axb + (1,),)), 2)]
        for value, at in cases:
            self.assertIs(is_graph(value), False)
            self.told(InvalidGraph, at, need_graph, value)
        for value in odd_values():
            self.assertIs(is_graph(value), False)
            self.told(InvalidGraph, -1, need_graph, value)

    def test_deeds(self):
        line = ("a", "x", "b")
        for value in (("node", "a"), ("drop", "a"), ("line", line, 0), ("cut", line), ("line", line, 10 ** 6)):
            self.assertIs(is_deed(value), True)
            self.assertIsNone(need_deed(value))
        cases = [
            (["node", "a"], -1), (("node",), -1), (("node", "a", "b"), -1), (("add", "a"), -1), ((), -1), (("line", line), -1),
            (("cut", line, 1), -1), (("line", line, 1, 1), -1), ((None, "a"), -1), ((("node",), "a"), -1), (([], "a"), -1), ("node", -1),
            (("node", "A"), 1), (("drop", 1), 1), (("drop", line), 1), (("cut", "a"), 1), (("line", ("a", "x"), 1), 1),
            (("line", line, -1), 2), (("line", line, True), 2), (("line", None, True), 1), (("line", list(line), 1), 1),
            (("line", line, 10 ** 6 + 1), 2), (("cut", ("a", "X", "b")), 1), (("node", ["a"]), 1)]
        for value, at in cases:
            self.assertIs(is_deed(value), False)
            self.told(InvalidDeed, at, need_deed, value)
        for value in odd_values():
            self.assertIs(is_deed(value), False)
            self.told(InvalidDeed, -1, need_deed, value)

    def test_batches(self):
        good = ("node", "a")
        for value in ((), [], (good,), [good, ("cut", ("a", "x", "b"))]):
            self.assertIsNone(need_batch(value))
        for value, at in ((None, -1), ("node", -1), (True, -1), (good, 0), ((good, 1), 1), ([good, good, ["node", "a"]], 2),
                          ([("node", "A")], 0), ((good, ("line", ("a", "x", "b"), True)), 1)):
            self.told(InvalidDeed, at, need_batch, value)
        for value in odd_values():
            if value not in ((), []):
                self.told(InvalidDeed, 0 if isinstance(value, (list, tuple)) else -1, need_batch, value)


class DeedsTest(Case):
    def test_each_deed(self):
        line, other = ("a", "x", "b"), ("b", "y", "b")
        graph = (("a", "b"), ((line, 1), (other, 2)))
        self.same(done(graph, ("node", "a")), graph)
        self.same(done(graph, ("node", "aa")), (("a", "aa", "b"), graph[1]))
        self.same(done(graph, ("drop", "c")), graph)
        self.same(done(graph, ("drop", "b")), (("a",), ()))
        self.same(done(graph, ("drop", "a")), (("b",), ((other, 2),)))
        self.same(done(graph, ("cut", line)), (("a", "b"), ((other, 2),)))
        self.same(done(graph, ("cut", ("b", "x", "a"))), graph)
        self.same(done(graph, ("line", line, 1)), graph)
        self.same(done(graph, ("line", line, 0)), (("a", "b"), ((line, 0), (other, 2))))
        self.same(done(EMPTY, ("line", ("c", "x", "c"), 3)), (("c",), ((("c", "x", "c"), 3),)))
        self.same(done(graph=graph, deed=("line", ("c", "x", "a"), 3)), (("a", "b", "c"), graph[1] + ((("c", "x", "a"), 3),)))

    def test_batches_beside_plain_dicts(self):
        rng = random.Random(81)
        for _ in range(150):
            graph, nodes, prices = EMPTY, set(), {}
            for _ in range(4):
                batch = [random_deed(rng, lines=prices) for _ in range(rng.randint(0, 12))]
                nodes, prices = plain_done(nodes, prices, batch)
                ahead, graph = graph, all_done(graph, rng.choice([tuple, list])(batch))
                self.same(graph, plain_graph(nodes, prices))
                self.assertIs(is_graph(graph), True)
                one_by_one = ahead
                for deed in batch:
                    one_by_one = done(one_by_one, deed)
                self.same(one_by_one, graph)
                self.same(all_done(graph, backward(ahead, batch)), ahead)
                self.same(backward(graph=ahead, batch=batch), between(graph, ahead))
        self.same(all_done(graph=EMPTY, batch=[]), EMPTY)

    def test_between(self):
        rng = random.Random(82)
        for _ in range(300):
            one, other = random_graph(rng, rng.randint(0, 9)), random_graph(rng, rng.randint(0, 9))
            if rng.random() < 0.5:
                other = all_done(one, [random_deed(rng, lines=dict(one[1])) for _ in range(3)])
            told = between(one, other)
            self.same(all_done(one, told), other)
            mine, his = dict(one[1]), dict(other[1])
            drops = [("drop", node) for node in sorted(set(one[0]) - set(other[0]))]
            cuts = [("cut", line) for line in sorted(set(mine) - set(his)) if {line[0], line[2]} <= set(other[0])]
            lines = [("line", line, his[line]) for line in sorted(his) if line not in mine or mine[line] != his[line]]
            ends = {node for _, line, _ in lines for node in (line[0], line[2])}
            nodes = [("node", node) for node in sorted(set(other[0]) - set(one[0]) - ends)]
            self.same(told, tuple(drops + cuts + nodes + lines))
        self.same(between(graph=EMPTY, other=EMPTY), ())


class TellingTest(Case):
    def test_beside_all_lines(self):
        rng = random.Random(83)
        for _ in range(80):
            graph = random_graph(rng, rng.randint(0, 14))
            nodes, prices = graph[0], dict(graph[1])
            self.same(kinds_of(graph), tuple(sorted({line[1] for line in prices})))
            for line in list(prices)[:5] + [random_line(rng) for _ in range(5)]:
                if line in prices:
                    self.same(line_price(graph, line), prices[line])
                else:
                    self.told(NoName, line, line_price, graph, line)
            for node in list(nodes) + ["none"]:
                steps = sorted([(line, 1) for line in prices if line[0] == node] + [(line, -1) for line in prices if line[2] == node])
                self.same(steps_at(graph, node), tuple(steps))
                for kind in KINDS + [None, "zz"]:
                    for way, mine, others in ((1, 0, 2), (-1, 2, 0)):
                        lines = sorted(line for line in prices if line[mine] == node and kind in (None, line[1]))
                        self.same(lines_at(graph, node, kind, way), tuple(lines))
                        self.same(next_nodes(graph, node, kind, way), tuple(sorted({line[others] for line in lines})))
            turned = turned_graph(graph)
            self.assertIs(is_graph(turned), True)
            self.same(turned, plain_graph(nodes, {line[::-1]: prices[line] for line in prices}))
            self.same(turned_graph(turned), graph)
            some = rng.sample(NODES, rng.randint(0, 6))
            part = part_graph(graph, rng.choice([list, tuple])(some))
            self.same(part, plain_graph(set(some) & set(nodes), {
                line: prices[line] for line in prices if line[0] in some and line[2] in some}))

    def test_parameters(self):
        graph = (("a",), ((("a", "x", "a"), 4),))
        self.same(kinds_of(graph=graph), ("x",))
        self.same(line_price(graph=graph, line=("a", "x", "a")), 4)
        self.same(lines_at(graph=graph, node="a", kind=None, way=-1), (("a", "x", "a"),))
        self.same(next_nodes(graph=graph, node="a", kind="x", way=1), ("a",))
        self.same(steps_at(graph=graph, node="a"), ((("a", "x", "a"), -1), (("a", "x", "a"), 1)))
        self.same(turned_graph(graph=graph), graph)
        self.same(part_graph(graph=graph, nodes=()), EMPTY)
        self.same(renamed_graph(graph=graph, names=(("a", "b"),)), (("b",), ((("b", "x", "b"), 4),)))

    def test_the_price_of_any_value(self):
        graph = (("a",), ((("a", "x", "a"), 4),))
        for value in odd_values() + [["a", "x", "a"], ("a", "x"), ("a", "x", ["a"])]:
            with self.assertRaises(NoName) as held:
                line_price(graph, value)
            self.assertIs(held.exception.name, value)

    def test_renamed(self):
        rng = random.Random(84)
        for _ in range(60):
            graph = random_graph(rng, rng.randint(0, 10))
            new = rng.sample(NODES + ["q", "r", "s"], len(graph[0]))
            names = dict(zip(graph[0], new))
            self.same(renamed_graph(graph, tuple(zip(graph[0], new))), plain_graph(
                set(new), {(names[line[0]], line[1], names[line[2]]): price for line, price in graph[1]}))
        self.same(renamed_graph(EMPTY, ()), EMPTY)

    def test_wrong_names(self):
        graph = (("a", "b"), ((("a", "x", "b"), 4),))
        wrong = [(), (("a", "c"),), (("b", "d"), ("a", "c")), (("a", "c"), ("b", "c")), [("a", "c"), ("b", "d")],
                 (("a", "c"), ["b", "d"]), (("a", "c"), ("b", "D")), (("a", "c"), ("b", "d"), ("e", "f")), (("a", "c"), ("a", "d")),
                 (("a", "c"), ("c", "d")), (("a", "c"), ("b", None)), (("a", "c"), ("b", ["d"])), (("a", "c"), ("b",)), ("ac", "bd"),
                 (("a", "c"), ("b", "d", "e")), (("a", "abcde"), ("b", "c"))]
        for names in wrong + odd_values():
            self.told(InvalidGraph, -1, renamed_graph, graph, names)
        self.told(InvalidGraph, -1, renamed_graph, EMPTY, (("a", "b"),))
        self.told(InvalidGraph, -1, renamed_graph, EMPTY, [])
        self.same(renamed_graph(graph, (("a", "b"), ("b", "a"))), (("a", "b"), ((("b", "x", "a"), 4),)))


if __name__ == "__main__":
    unittest.main()
