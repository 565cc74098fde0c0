import random
import time

from spelledways.distances import (check_field, doubtful, field, kept_machine, mended, moves_from, moves_into, nearer,
                                   read_kind)
from spelledways.formulas import kinds_in, spells, strange_kind
from spelledways.graphs import EMPTY, all_done, steps_at
from spelledways.least import least_machine
from spelledways.waysof import step_ends, walk_end, walk_word
from tests.common import Case, odd_values
from tests.test_places import A, AXB, BXB, BXC, GRAPH, short_walks, small_graph, small_question
from tests.test_search import greatest_graph

FORWARD = ("star", ("any", 1))


def wide_question(rng):
    """A question whose fields are mostly wide."""
    part = small_question(rng, 5)
    return rng.choice([part, ("star", ("either", (part, ("any", 1)))), ("star", ("row", (part, ("maybe", ("any", -1)), ("any", 1))))])


def strange_graph(rng, lines=6, nodes=("a", "b", "c", "d")):
    """A graph that may have kinds that no question names, the strange one among them."""
    graph = small_graph(rng, nodes, lines)
    names = {"x": rng.choice(["x", "x", "0", "q"]), "y": rng.choice(["y", "x", "0", "1"])}
    return graph[0], tuple(sorted({(line[0], names[line[1]], line[2]): price for line, price in graph[1]}.items()))


def plain_field(graph, question, node, left_out=()):
    """The field found level by level over told moves; no move goes along a line that is left out."""
    levels = [{(node, 0)} if node in graph[0] else set()]
    told = {place: 0 for place in levels[0]}
    while levels[-1]:
        pairs = [pair for place in levels[-1] for pair in moves_from(graph, question, place)]
        wider = {place for step, place in pairs if step[0] not in left_out} - set(told)
        told.update({place: len(levels) for place in wider})
        levels.append(wider)
    return tuple(sorted(told.items()))


class MovesTest(Case):
    def test_machine_and_kinds(self):
        rng = random.Random(181)
        for _ in range(60):
            question = small_question(rng)
            kinds = kinds_in(question)
            strange = strange_kind(kinds)
            self.assertTrue(kept_machine(question=question) == least_machine(question, tuple(sorted(kinds + (strange,)))))
            for kind in kinds + (strange, "q", "zzzz", "1"):
                self.same(read_kind(question=question, kind=kind), kind if kind in kinds else strange)
        self.same(kept_machine(("any", 1)).kinds, ("0",))
        self.same(read_kind(("row", (("one", "0", 1), ("one", "1", 1))), "q"), "2")

    def test_moves_both_ways(self):
        rng = random.Random(182)
        for _ in range(80):
            graph, question = strange_graph(rng), small_question(rng)
            machine = kept_machine(question)
            into = {}
            for node in graph[0]:
                for state in range(machine.many):
                    told = []
                    for step in steps_at(graph, node):
                        to = machine.next_state(state, (read_kind(question, step[0][1]), step[1]))
                        if to is not None:
                            told.append((step, (step_ends(step)[1], to)))
                            into.setdefault(told[-1][1], []).append((step, (node, state)))
                    self.same(moves_from(graph, question, (node, state)), tuple(told))
            for node in graph[0]:
                for state in range(machine.many):
                    self.same(moves_into(graph, question, (node, state)), tuple(sorted(into.get((node, state), []))))
        self.same(moves_from(graph=GRAPH, question=FORWARD, place=("a", 0)), (((AXB, 1), ("b", 0)),))
        self.same(moves_into(graph=GRAPH, question=FORWARD, place=("b", 0)), (((AXB, 1), ("a", 0)),))

    def test_words_are_read_whatever_kinds_there_are(self):
        rng = random.Random(183)
        for _ in range(50):
            graph, question = strange_graph(rng, lines=4), small_question(rng)
            machine = kept_machine(question)
            for walk in short_walks(graph, 3):
                state = 0
                for kind, way in walk_word(walk):
                    state = None if state is None else machine.next_state(state, (read_kind(question, kind), way))
                self.assertIs(state in machine.ends, spells(question, walk_word(walk)))


class FieldTest(Case):
    def test_beside_levels_and_walks(self):
        rng = random.Random(184)
        for _ in range(100):
            graph, question = strange_graph(rng, lines=4), small_question(rng)
            ends = kept_machine(question).ends
            walks = [walk for walk in short_walks(graph, 3) if spells(question, walk_word(walk))]
            for node in graph[0] + ("q",):
                rows = field(graph, question, node)
                self.same(rows, plain_field(graph, question, node))
                self.assertIs(check_field(graph, question, node, rows), True)
                for other in graph[0]:
                    told = min([number for place, number in rows if place[0] == other and place[1] in ends], default=4)
                    short = min([len(walk[1]) for walk in walks if (walk[0], walk_end(walk)) == (node, other)], default=4)
                    self.same(min(told, 4), short)

    def test_edges(self):
        self.same(field(graph=EMPTY, question=FORWARD, node="a"), ())
        self.assertIs(check_field(graph=EMPTY, question=FORWARD, node="a", value=()), True)
        self.assertIs(check_field(EMPTY, FORWARD, "a", ((("a", 0), 0),)), False)
        self.same(field(GRAPH, ("either", ()), "a"), ((("a", 0), 0),))
        self.same(field(GRAPH, ("empty",), "b"), ((("b", 0), 0),))
        self.assertIs(check_field(GRAPH, ("empty",), "b", ()), False)
        self.same(field((("b",), ((BXB, 1),)), ("some", ("any", -1)), "b"), ((("b", 0), 0), (("b", 1), 1)))
        graph = (("a", "b", "c"), ((AXB, 1), (("a", "y", "c"), 1), (BXC, 1)))
        self.same(field(graph, FORWARD, "a"), ((("a", 0), 0), (("b", 0), 1), (("c", 0), 1)))

    def test_nothing_but_the_field_passes(self):
        rng = random.Random(185)
        for _ in range(120):
            graph, question = strange_graph(rng), small_question(rng)
            node = rng.choice(graph[0] + ("q",))
            rows = field(graph, question, node)
            places = [(here, state) for here in graph[0] for state in range(kept_machine(question).many)]
            for _ in range(12):
                bent = dict(rows)
                for _ in range(rng.randint(1, 2)):
                    choice = rng.random()
                    if choice < 0.3 and bent:
                        bent.pop(rng.choice(sorted(bent)))
                    elif choice < 0.7 and bent:
                        bent[rng.choice(sorted(bent))] += rng.choice([-1, 1])
                    elif places:
                        bent[rng.choice(places)] = rng.randint(0, 4)
                value = tuple(sorted(bent.items()))
                self.assertIs(check_field(graph, question, node, value), value == rows)
            if len(rows) > 1:
                self.assertIs(check_field(graph, question, node, rows[::-1]), False)
                self.assertIs(check_field(graph, question, node, rows + rows[-1:]), False)
                self.assertIs(check_field(graph, question, node, rows[:1] + rows), False)
            self.assertIs(check_field(graph, question, node, list(rows)), False)

    def test_any_value(self):
        rows = field(GRAPH, FORWARD, "a")
        for value in odd_values():
            self.assertIs(check_field(GRAPH, FORWARD, "a", value), False)
            self.assertIs(check_field(GRAPH, FORWARD, "a", (value,)), False)
            self.assertIs(check_field(GRAPH, FORWARD, "a", rows + (value,)), False)
            self.assertIs(check_field(GRAPH, FORWARD, "a", ((("a", 0), value),) + rows[1:]), False)
            self.assertIs(check_field(GRAPH, FORWARD, "a", ((value, 0),) + rows[1:]), False)
            self.assertIs(check_field(GRAPH, FORWARD, "a", ((("a", value), 0),) + rows[1:]), False)
        for first in ((("a", False), 0), (("a", 0), False), [("a", 0), 0], (["a", 0], 0), (("a", 0), 0, 0), (("a",), 0), (("a", 0, 0), 0)):
            self.assertIs(check_field(GRAPH, FORWARD, "a", (first,) + rows[1:]), False)
        self.assertIs(check_field(GRAPH, FORWARD, "a", rows[:1] + ((("b", 0), True),) + rows[2:]), False)
        self.assertIs(check_field(GRAPH, FORWARD, "a", rows + ((("q", 0), 3),)), False)


class ChangesTest(Case):
    def some_lines(self, rng, graph):
        lines = [line for line, _ in graph[1]]
        return rng.choice([tuple, list])(rng.sample(lines, rng.choice([0, 1, 1, 2, len(lines)]) if len(lines) > 1 else len(lines)))

    def test_lines_that_go(self):
        rng = random.Random(191)
        told = 0
        for _ in range(200):
            graph, question = strange_graph(rng, 7), wide_question(rng)
            lines = self.some_lines(rng, graph)
            less = all_done(graph, [("cut", line) for line in lines])
            # Nodes may go with their lines; but not the one of the field.
            bare = [node for node in less[0] if not steps_at(less, node)]
            gone = rng.sample(bare, rng.randint(0, len(bare)))
            for node in graph[0]:
                rows = field(graph, question, node)
                behind = dict(plain_field(graph, question, node, lines))
                doubt = doubtful(graph, question, rows, lines)
                self.same(doubt, tuple(place for place, number in rows if behind.get(place, number + 1) > number))
                told += len(doubt)
                if node not in gone:
                    fewer = all_done(less, [("drop", other) for other in gone])
                    self.same(mended(fewer, question, rows, doubt), field(fewer, question, node))
                    self.same(mended(fewer, question, list(rows), list(doubt)), field(fewer, question, node))
        self.assertGreater(told, 200)

    def test_lines_that_come(self):
        rng = random.Random(192)
        told = 0
        for _ in range(200):
            graph, question = strange_graph(rng, 7), wide_question(rng)
            lines = self.some_lines(rng, graph)
            less = all_done(graph, [("cut", line) for line in lines])
            bare = [node for node in less[0] if not steps_at(less, node)]
            for node in graph[0]:
                others = [other for other in bare if other != node and rng.random() < 0.5]
                fewer = all_done(less, [("drop", other) for other in others])
                ahead, behind = field(fewer, question, node), field(graph, question, node)
                self.same(nearer(graph, question, ahead, lines), behind)
                told += ahead != behind
        self.assertGreater(told, 100)

    def test_a_place_of_the_new_field_is_nearer(self):
        rng = random.Random(193)
        for _ in range(100):
            graph, question = strange_graph(rng, 6), wide_question(rng)
            lines = self.some_lines(rng, graph)
            for node in graph[0]:
                behind = field(graph, question, node)
                ahead = dict(plain_field(graph, question, node, lines))
                nearer_ones = tuple(place for place, number in behind if ahead.get(place, number + 1) > number)
                self.same(doubtful(graph, question, behind, lines), nearer_ones)

    def test_edges(self):
        graph = (("a", "b", "c"), ((AXB, 1), (("a", "y", "c"), 1), (BXC, 1)))
        rows = field(graph, FORWARD, "a")
        self.same(doubtful(graph, FORWARD, rows, (("a", "y", "c"),)), (("c", 0),))
        self.same(doubtful(graph=graph, question=FORWARD, rows=rows, lines=[]), ())
        self.same(doubtful(graph, FORWARD, rows, (BXC,)), ())
        self.same(doubtful(graph, FORWARD, rows, [AXB, ("a", "y", "c"), AXB]), (("b", 0), ("c", 0)))
        fewer = (("a",), ())
        self.same(mended(graph=fewer, question=FORWARD, rows=rows, places=(("b", 0), ("c", 0))), ((("a", 0), 0),))
        self.same(nearer(graph=graph, question=FORWARD, rows=((("a", 0), 0),), lines=(AXB, ("a", "y", "c"), BXC)), rows)
        for question in (FORWARD, ("empty",), ("either", ())):
            self.same(doubtful(graph, question, (), ()), ())
            self.same((mended(graph, question, (), ()), nearer(graph, question, (), (AXB,))), ((), ()))
        loop = (("b",), ((BXB, 1),))
        some = ("some", ("any", -1))
        rows = field(loop, some, "b")
        self.same(doubtful(loop, some, rows, (BXB,)), (("b", 1),))
        self.same(mended((("b",), ()), some, rows, (("b", 1),)), ((("b", 0), 0),))
        self.same(nearer(loop, some, ((("b", 0), 0),), (BXB,)), rows)

    def test_the_greatest_in_good_time(self):
        started = time.time()
        graph = greatest_graph(("x", "q"))
        question = ("row", (("star", ("any", 1)), A) + (("any", 1),) * 4)
        rows = field(graph, question, graph[0][0])
        self.assertGreater(len(rows), 250)
        self.assertIs(check_field(graph, question, graph[0][0], rows), True)
        lines = [line for line, _ in graph[1]][::4]
        less = all_done(graph, [("cut", line) for line in lines])
        fewer = mended(less, question, rows, doubtful(graph, question, rows, lines))
        self.same(fewer, field(less, question, graph[0][0]))
        self.same(nearer(graph, question, fewer, lines), rows)
        self.assertLess(time.time() - started, 3)
