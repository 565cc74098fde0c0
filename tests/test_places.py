import random
import time

from spelledways.errors import InvalidAsk, InvalidQuestion
from spelledways.formulas import spells
from spelledways.graphs import EMPTY, is_node, kinds_of, steps_at
from spelledways.least import least_machine
from spelledways.places import answers_ask, goals, machine_for, moves, need_ask, place_behind, starts
from spelledways.waysof import is_walk, step_ends, walk_end, walk_word
from tests.common import Case, nested, odd_values
from tests.test_formulas import random_question
from tests.test_graphs import random_graph

A, B = ("one", "x", 1), ("one", "y", -1)
AXB, BXC, CYA, BXB = ("a", "x", "b"), ("b", "x", "c"), ("c", "y", "a"), ("b", "x", "b")
GRAPH = (("a", "b", "c"), ((AXB, 5), (BXC, 1), (CYA, 0)))
AROUND = ("row", (("star", A), ("one", "y", 1)))


def small_graph(rng, nodes=("a", "b", "c"), lines=5):
    """A graph of few lines, perhaps without nodes, perhaps with lines from a node to itself."""
    if rng.random() < 0.05:
        return EMPTY
    return random_graph(rng, rng.randint(0, lines), nodes=list(nodes), kinds=["x", "y"])


def small_question(rng, size=6):
    return random_question(rng, rng.randint(1, size), kinds=("x", "y", "z"))


def random_ask(rng, graph, question=None):
    ends = [None, None] + list(graph[0]) * 2 + ["q"]
    return (rng.choice(ends), question or small_question(rng), rng.choice(ends))


def short_walks(graph, most):
    """All walks of a graph with at most so many steps."""
    walks = [(node, ()) for node in graph[0]]
    for walk in walks:
        if len(walk[1]) < most:
            walks.extend((walk[0], walk[1] + (step,)) for step in steps_at(graph, walk_end(walk)))
    return walks


def plain_answers(graph, ask, most):
    """All walks of at most so many steps that answer an ask, in order: each word is looked at by `spells`."""
    walks = [walk for walk in short_walks(graph, most) if ask[0] in (None, walk[0]) and ask[2] in (None, walk_end(walk))]
    told = {word: spells(ask[1], word) for word in {walk_word(walk) for walk in walks}}
    return sorted([walk for walk in walks if told[walk_word(walk)]], key=lambda walk: (len(walk[1]), walk[0], walk[1]))


class AskTest(Case):
    def test_asks(self):
        for value in (("a", A, "b"), (None, A, None), ("zzzz", ("row", ()), None), (None, ("empty",), "0")):
            self.assertIsNone(need_ask(value))
        for value, at in ((["a", A, "b"], -1), (("a", A), -1), (("a", A, "b", 1), -1), ((), -1), ("abc", -1), (None, -1), (True, -1),
                          (("A", A, "b"), 0), ((1, None, 1), 0), ((True, A, "b"), 0), ((("a",), A, "b"), 0), (("", A, None), 0),
                          (("abcde", A, None), 0), (("a", A, "B"), 2), ((None, A, 0), 2), (("a", A, ["a"]), 2), (("a", A, False), 2)):
            self.told(InvalidAsk, at, need_ask, value)
        self.told(InvalidQuestion, 0, need_ask, ("a", None, "B"))
        self.told(InvalidQuestion, 2, need_ask, value=(None, ("row", (A, ["one", "x", 1])), 5))
        self.told(InvalidQuestion, 1, need_ask, ("a", ("star", nested(29, tuple)), None))

    def test_any_value(self):
        for value in odd_values():
            triple = isinstance(value, tuple) and len(value) == 3
            if triple and is_node(value[0]):
                self.told(InvalidQuestion, 0, need_ask, value)
            else:
                self.told(InvalidAsk, 0 if triple else -1, need_ask, value)
            if value is not None:
                self.told(InvalidAsk, 0, need_ask, (value, A, value))
                self.told(InvalidAsk, 2, need_ask, ("a", A, value))
            self.told(InvalidQuestion, 0, need_ask, ("a", value, value))
        self.told(InvalidQuestion, 0, need_ask, (None, None, None))


class PlacesTest(Case):
    def test_beside_steps_and_the_machine(self):
        rng = random.Random(131)
        for _ in range(120):
            graph, question = small_graph(rng), small_question(rng)
            machine = machine_for(graph=graph, question=question)
            self.assertTrue(machine == least_machine(question, kinds_of(graph)))
            for ask in [random_ask(rng, graph, question) for _ in range(4)] + [(None, question, None)]:
                self.same(starts(graph, ask), tuple((node, 0) for node in graph[0] if ask[0] in (None, node)))
                self.same(goals(graph, ask), tuple(
                    (node, state) for node in graph[0] if ask[2] in (None, node) for state in machine.ends))
            for node in graph[0]:
                for state in range(machine.many):
                    told = [(step, machine.next_state(state, (step[0][1], step[1]))) for step in steps_at(graph, node)]
                    wanted = tuple((step, (step_ends(step)[1], to)) for step, to in told if to is not None)
                    self.same(moves(graph, question, (node, state)), wanted)

    def test_place_behind(self):
        rng = random.Random(132)
        for _ in range(60):
            graph, question = small_graph(rng), small_question(rng)
            machine = machine_for(graph, question)
            for walk in short_walks(graph, 3)[:40]:
                states = machine.states_behind(walk_word(walk))
                self.same(place_behind(graph, question, walk), (walk_end(walk), states[0]) if states else None)
        self.same(place_behind(graph=GRAPH, question=AROUND, walk=("a", ())), ("a", 0))
        self.same(place_behind(GRAPH, AROUND, ("a", ((CYA, -1),))), None)

    def test_the_walks_that_answer_are_the_ways_of_moves(self):
        rng = random.Random(133)
        for _ in range(40):
            graph = small_graph(rng, lines=4)
            ask = random_ask(rng, graph)
            ends = goals(graph, ask)
            ways = [(place[0], (), place) for place in starts(graph, ask)]
            for node, steps, place in ways:
                if len(steps) < 3:
                    ways.extend((node, steps + (step,), other) for step, other in moves(graph, ask[1], place))
            found = sorted((node, steps) for node, steps, place in ways if place in ends)
            self.same(found, sorted(plain_answers(graph, ask, 3)))

    def test_edges(self):
        self.same((starts(EMPTY, (None, A, None)), goals(EMPTY, (None, A, None))), ((), ()))
        self.same(starts(graph=GRAPH, ask=("q", A, None)), ())
        self.same(goals(graph=GRAPH, ask=(None, A, "q")), ())
        self.same(goals(GRAPH, (None, ("either", ()), None)), ())
        self.same(goals(GRAPH, (None, ("one", "z", 1), None)), ())
        self.same(goals(GRAPH, (None, ("empty",), None)), (("a", 0), ("b", 0), ("c", 0)))
        self.same(moves(graph=GRAPH, question=AROUND, place=("a", 0)), (((AXB, 1), ("b", 0)),))
        loop = (("b",), ((BXB, 1),))
        self.same(moves(loop, ("star", ("either", (("any", 1), ("any", -1)))), ("b", 0)), (((BXB, -1), ("b", 0)), ((BXB, 1), ("b", 0))))


class AnswersAskTest(Case):
    def test_beside_all_short_walks(self):
        rng = random.Random(134)
        for _ in range(50):
            graph = small_graph(rng, lines=4)
            ask = random_ask(rng, graph)
            right = set(plain_answers(graph, ask, 3))
            for walk in short_walks(graph, 3):
                self.assertIs(answers_ask(graph, ask, walk), walk in right)

    def test_any_value(self):
        ask = (None, ("star", ("any", 1)), None)
        walk = ("a", ((AXB, 1), (BXC, 1)))
        self.assertIs(answers_ask(graph=GRAPH, ask=ask, value=walk), True)
        self.assertIs(answers_ask(GRAPH, ("q", ("empty",), "q"), ("q", ())), False)
        self.assertIs(answers_ask(GRAPH, ask, ("a", ())), True)
        for value in odd_values() + [list(walk), ("a", list(walk[1])), ("a", ((AXB, True),)), ("a", ((AXB, 1), (AXB, 1))), ("q", ())]:
            self.assertIs(answers_ask(GRAPH, ask, value), False)
            self.assertIs(answers_ask(GRAPH, ask, ("a", (value,))), False)

    def test_long_walks_in_good_time(self):
        started = time.time()
        loop = (("b",), ((BXB, 1),))
        for many in (300, 301):
            walk = ("b", ((BXB, 1),) * many)
            self.assertIs(is_walk(loop, walk), True)
            self.assertIs(answers_ask(loop, (None, ("star", ("row", (A, A))), "b"), walk), many == 300)
        self.assertLess(time.time() - started, 2)
