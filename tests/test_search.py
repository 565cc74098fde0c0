import random
import time

from spelledways.formulas import spells_empty
from spelledways.graphs import EMPTY
from spelledways.places import answers_ask, machine_for, moves, starts
from spelledways.search import answers, answers_of, distance, distances, reached, walk_for
from spelledways.waysof import walk_end
from tests.common import Case
from tests.test_places import A, AROUND, AXB, BXB, BXC, CYA, GRAPH, plain_answers, random_ask, small_graph, small_question

MOST = 4


def plain_reached(graph, ask):
    """Each place that is reached, found level by level."""
    levels = [set(starts(graph, ask))]
    told = {place: 0 for place in levels[0]}
    while levels[-1]:
        wider = {other for place in levels[-1] for _, other in moves(graph, ask[1], place)} - set(told)
        told.update({place: len(levels) for place in wider})
        levels.append(wider)
    return tuple(sorted(told.items()))


def greatest_graph(kinds=("x", "y")):
    """12 nodes and 40 lines, with a line from a node to itself."""
    nodes = tuple(sorted("n" + str(at) for at in range(12)))
    lines = {(nodes[at], kinds[at % len(kinds)], nodes[(at + 1) % 12]): at for at in range(12)}
    for at in range(28):
        lines[(nodes[at * 5 % 12], kinds[(at // 12) % len(kinds)], nodes[(at * 7 + at // 12) % 12])] = at
    return nodes, tuple(sorted(lines.items()))


class AnswersTest(Case):
    def test_beside_all_short_walks(self):
        rng = random.Random(141)
        found = 0
        for _ in range(250):
            graph = small_graph(rng)
            question = small_question(rng)
            walks = plain_answers(graph, (None, question, None), MOST)
            least = {}
            for walk in walks:
                least.setdefault((walk[0], walk_end(walk)), len(walk[1]))
            told = distances(graph, question)
            self.same(tuple(sorted(told)), told)
            # What only longer walks tell is left to the walks themselves, below.
            self.same(tuple(row for row in told if row[2] <= MOST), tuple(pair + (least[pair],) for pair in sorted(least)))
            self.same(answers(graph, question), tuple(row[:2] for row in told))
            found += len(told)
            for ask in [random_ask(rng, graph, question) for _ in range(3)]:
                self.look_at_ask(graph, ask, [walk for walk in walks if ask[0] in (None, walk[0]) and ask[2] in (None, walk_end(walk))])
        self.assertGreater(found, 300)

    def look_at_ask(self, graph, ask, walks):
        rows = [row for row in distances(graph, ask[1]) if ask[0] in (None, row[0]) and ask[2] in (None, row[1])]
        self.same(answers_of(graph, ask), tuple(row[:2] for row in rows))
        walk = walk_for(graph, ask)
        many = min([row[2] for row in rows], default=None)
        self.same(distance(graph, ask), many)
        self.assertIs(walk is None, not rows)
        if walks:
            self.same(walk, walks[0])
        if walk is not None:
            self.assertIs(answers_ask(graph, ask, walk), True)
            self.same(len(walk[1]), many)
            self.assertLess(many, len(graph[0]) * machine_for(graph, ask[1]).many)
            self.same(walk[0], min(row[0] for row in rows if row[2] == many))
        self.same(reached(graph, ask), plain_reached(graph, ask))

    def test_every_pair_has_its_walk(self):
        rng = random.Random(142)
        for _ in range(60):
            graph, question = small_graph(rng), small_question(rng)
            for one, other, steps in distances(graph, question):
                walk = walk_for(graph, (one, question, other))
                self.assertIs(answers_ask(graph, (one, question, other), walk), True)
                self.same((walk[0], len(walk[1])), (one, steps))

    def test_the_least_of_several(self):
        lines = (("a", "x", "b"), ("a", "x", "c"), ("a", "y", "b"), ("b", "x", "d"), ("c", "x", "d"), ("d", "x", "a"))
        graph = (("a", "b", "c", "d"), tuple((line, 0) for line in lines))
        both = ("either", (("any", 1), ("any", -1)))
        twice = ("row", (both, both))
        self.same(walk_for(graph, ("a", twice, "d")), ("a", ((lines[0], 1), (lines[3], 1))))
        self.same(walk_for(graph, ("d", twice, "a")), ("d", ((lines[3], -1), (lines[0], -1))))
        self.same(walk_for(graph, ("d", twice, "d")), ("d", ((lines[3], -1), (lines[3], 1))))
        self.same(walk_for(graph, (None, ("row", (A, A)), "d")), ("a", ((lines[0], 1), (lines[3], 1))))
        self.same(walk_for(graph, (None, A, None)), ("a", ((lines[0], 1),)))
        self.same(walk_for(graph, (None, A, "d")), ("b", ((lines[3], 1),)))

    def test_edges(self):
        around = ("row", (("star", A), ("one", "y", 1)))
        self.same(distances(GRAPH, around), (("a", "a", 3), ("b", "a", 2), ("c", "a", 1)))
        self.same((walk_for(GRAPH, (None, around, "a")), walk_for(GRAPH, ("a", around, "b"))), (("c", ((CYA, 1),)), None))
        self.same(walk_for(graph=GRAPH, ask=(None, ("star", A), None)), ("a", ()))
        self.same(answers_of(graph=GRAPH, ask=("b", ("star", A), None)), (("b", "b"), ("b", "c")))
        self.same(distance(graph=GRAPH, ask=("a", ("star", A), "c")), 2)
        self.same(answers(graph=GRAPH, question=("empty",)), (("a", "a"), ("b", "b"), ("c", "c")))
        self.same(distances(graph=GRAPH, question=("times", A, 0, 0)), (("a", "a", 0), ("b", "b", 0), ("c", "c", 0)))
        self.same(reached(graph=GRAPH, ask=("a", A, None)), ((("a", 0), 0), (("b", 1), 1)))
        for question in (("either", ()), ("one", "z", 1), ("row", (A, ("either", ())))):
            self.same((answers(GRAPH, question), walk_for(GRAPH, (None, question, None))), ((), None))
        for ask in (("q", ("empty",), "q"), ("q", AROUND, None), (None, AROUND, "q")):
            self.same((answers_of(GRAPH, ask), distance(GRAPH, ask), walk_for(GRAPH, ask)), ((), None, None))
        for question in (("star", ("any", 1)), ("empty",)):
            ask = (None, question, None)
            self.same((answers(EMPTY, question), reached(EMPTY, ask), distance(EMPTY, ask), walk_for(EMPTY, ask)), ((), (), None, None))
        bare = (("a", "b"), ())
        self.same(answers(bare, ("star", A)), (("a", "a"), ("b", "b")))
        self.same(answers(bare, ("some", A)), ())
        loop = (("b",), ((BXB, 1),))
        self.same(walk_for(loop, (None, ("times", ("any", -1), 2, 3), None)), ("b", ((BXB, -1), (BXB, -1))))
        self.assertTrue(spells_empty(("star", A)))

    def test_way_back_along_the_same_line(self):
        graph = (("a", "b", "c"), ((("a", "bus", "b"), 2), (("c", "bus", "b"), 3)))
        question = ("row", (("one", "bus", 1), ("one", "bus", -1)))
        self.same(answers(graph, question), (("a", "a"), ("a", "c"), ("c", "a"), ("c", "c")))
        self.same(walk_for(graph, ("a", question, "c")), ("a", ((("a", "bus", "b"), 1), (("c", "bus", "b"), -1))))
        self.same(walk_for(GRAPH, ("a", ("row", (A, A)), "c")), ("a", ((AXB, 1), (BXC, 1))))

    def test_the_greatest_in_good_time(self):
        started = time.time()
        graph = greatest_graph()
        self.assertEqual((len(graph[0]), len(graph[1])), (12, 40))
        question = ("row", (("star", ("any", 1)), A) + (("any", 1),) * 4)
        self.assertEqual(machine_for(graph, question).many, 32)
        pairs = answers(graph, question)
        self.assertGreater(len(pairs), 100)
        for pair in pairs[:20]:
            ask = (pair[0], question, pair[1])
            self.assertIs(answers_ask(graph, ask, walk_for(graph, ask)), True)
        self.assertGreater(len(reached(graph, (None, question, None))), 300)
        self.assertLess(time.time() - started, 4)
