import random
import time

from spelledways.distances import check_field, field, kept_machine, moves_from
from spelledways.errors import InvalidDeed, InvalidGraph, InvalidQuestion
from spelledways.graphs import EMPTY, all_done, backward, done
from spelledways.kept import Kept
from spelledways.search import answers, walk_for
from tests.common import Case, odd_values
from tests.test_distances import plain_field, strange_graph, wide_question
from tests.test_graphs import random_deed
from tests.test_places import A, AXB, BXC, GRAPH

NODES = ["a", "b", "c", "d"]
FORWARD = ("star", ("any", 1))


def random_batch(rng, graph, most=4):
    lines = [line for line, _ in graph[1]]
    return tuple(random_deed(rng, NODES, ["x", "y", "0", "q"], lines) for _ in range(rng.randint(0, most)))


def plain_effect(ahead, behind):
    return tuple(sorted(set(behind) - set(ahead))), tuple(sorted(set(ahead) - set(behind)))


def plain_touched(graph, other, question):
    """What a change puts in doubt and brings nearer, by fields reckoned anew."""
    ahead, behind = {line for line, _ in graph[1]}, {line for line, _ in other[1]}
    doubt, near = [], []
    for node in graph[0]:
        if node in other[0]:
            less = dict(plain_field(graph, question, node, ahead - behind))
            doubt += [(node, place, number) for place, number in field(graph, question, node) if less.get(place, number + 1) > number]
    for node in other[0]:
        less = dict(plain_field(other, question, node, behind - ahead)) if node in graph[0] else {}
        near += [(node, place, number) for place, number in field(other, question, node) if less.get(place, number + 1) > number]
    return tuple(sorted(doubt)), tuple(sorted(near))


class KeptTest(Case):
    def look_at(self, kept, graph, question):
        """All that is kept beside what is asked anew."""
        self.same(kept.graph(), graph)
        self.same(kept.pairs(), answers(graph, question))
        machine = kept_machine(question)
        for one in graph[0] + ("zz",):
            rows = field(graph, question, one)
            for other in graph[0] + ("zz",):
                walk = walk_for(graph, (one, question, other))
                self.same(kept.walk(one, other), walk)
                self.same(kept.far(one, other), None if walk is None else len(walk[1]))
                paper = kept.paper(one, other)
                self.same(paper, tuple(place for place, _ in rows) if walk is None else None)
                if walk is None:
                    self.assertTrue(one not in graph[0] or (one, machine.start) in paper)
                    self.assertFalse([place for place in paper if place[0] == other and place[1] in machine.ends])
                    self.assertTrue({to for place in paper for _, to in moves_from(graph, question, place)} <= set(paper))

    def test_beside_the_question_asked_anew(self):
        rng = random.Random(241)
        told = [0, 0, 0, 0]
        for _ in range(50):
            graph, question = strange_graph(rng, 7), wide_question(rng)
            kept = Kept(graph, question)
            self.same(kept.touched(), ((), ()))
            self.look_at(kept, graph, question)
            for _ in range(7):
                batch = random_batch(rng, graph)
                other = all_done(graph, batch)
                effect = kept.change(rng.choice([list, tuple])(batch))
                self.same(effect, plain_effect(answers(graph, question), answers(other, question)))
                self.same(kept.touched(), plain_touched(graph, other, question))
                for at, row in enumerate(effect + kept.touched()):
                    told[at] += len(row)
                graph = other
                self.look_at(kept, graph, question)
        self.assertGreater(min(told), 100)

    def test_what_is_told_in_neither_stays(self):
        rng = random.Random(242)
        for _ in range(60):
            graph, question = strange_graph(rng, 7), wide_question(rng)
            kept = Kept(graph, question)
            batch = random_batch(rng, graph)
            other = all_done(graph, batch)
            kept.change(batch)
            doubt, near = [{triple[:2]: triple[2] for triple in row} for row in kept.touched()]
            for node in set(graph[0]) & set(other[0]):
                ahead, behind = dict(field(graph, question, node)), dict(field(other, question, node))
                for place in set(ahead) | set(behind):
                    one, two = ahead.get(place), behind.get(place)
                    if one is not None and (two is None or two > one):
                        self.same(doubt[(node, place)], one)
                    if two is not None and (one is None or two < one):
                        self.same(near[(node, place)], two)
                    if (node, place) not in doubt and (node, place) not in near:
                        self.same(one, two)

    def test_one_by_one_or_at_once_and_back(self):
        rng = random.Random(243)
        for _ in range(50):
            graph, question = strange_graph(rng, 6), wide_question(rng)
            at_once, one_by_one = Kept(graph, question), Kept(graph, question)
            batch = random_batch(rng, graph, 6)
            back = backward(graph, batch)
            effect = at_once.change(batch)
            for deed in batch:
                one_by_one.change((deed,))
            self.same((one_by_one.graph(), one_by_one.pairs()), (at_once.graph(), at_once.pairs()))
            self.same(at_once.change(back), effect[::-1])
            self.same((at_once.graph(), at_once.pairs()), (graph, answers(graph, question)))

    def test_a_batch_that_does_nothing_or_takes_back_what_it_did(self):
        kept = Kept(GRAPH, FORWARD)
        for batch in ((), [], (("node", "a"),), (("cut", ("a", "y", "b")),), (("line", AXB, 5),), (("line", AXB, 9),),
                      (("cut", AXB), ("line", AXB, 5)), (("node", "d"), ("drop", "d")), (("line", ("a", "x", "a"), 1), ("cut", ("a", "x", "a")))):
            self.same(kept.change(batch), ((), ()))
            self.same(kept.touched(), ((), ()))
        self.same(kept.graph(), done(GRAPH, ("line", AXB, 5)))

    def test_a_node_that_is_dropped_and_put_again(self):
        graph = (("a", "b", "c"), ((AXB, 5), (BXC, 1)))
        kept = Kept(graph, FORWARD)
        batch = (("drop", "b"), ("node", "b"))
        self.same(kept.change(batch), ((), (("a", "b"), ("a", "c"), ("b", "c"))))
        self.same(kept.touched(), ((("a", ("b", 0), 1), ("a", ("c", 0), 2), ("b", ("c", 0), 1)), ()))
        self.same(kept.change((("drop", "b"), ("line", AXB, 1))), ((("a", "b"),), ()))
        self.same(kept.touched(), ((), (("a", ("b", 0), 1),)))
        self.same(kept.change((("drop", "a"),)), ((), (("a", "a"), ("a", "b"))))
        self.same(kept.touched(), ((), ()))
        self.same(kept.change((("line", ("b", "x", "a"), 1),)), ((("a", "a"), ("b", "a")), ()))
        self.same(kept.touched(), ((), (("a", ("a", 0), 0), ("b", ("a", 0), 1))))

    def test_nodes_that_are_not_there(self):
        kept = Kept(graph=GRAPH, question=("empty",))
        self.same((kept.far(one="q", other="q"), kept.walk(one="q", other="q"), kept.paper(one="q", other="q")), (None, None, ()))
        self.same((kept.far("a", "q"), kept.walk("a", "q"), kept.paper("a", "q")), (None, None, (("a", 0),)))
        self.same((kept.far("a", "a"), kept.walk("a", "a"), kept.paper("a", "a")), (0, ("a", ()), None))
        bare = Kept(EMPTY, FORWARD)
        self.same((bare.graph(), bare.pairs(), bare.paper("a", "b")), (EMPTY, (), ()))
        self.same(bare.change(batch=(("line", AXB, 0),)), ((("a", "a"), ("a", "b"), ("b", "b")), ()))
        self.same(bare.change((("drop", "a"), ("drop", "b"))), ((), (("a", "a"), ("a", "b"), ("b", "b"))))
        none = Kept(GRAPH, ("either", ()))
        self.same((none.pairs(), none.far("a", "a"), none.paper("a", "c")), ((), None, (("a", 0),)))

    def test_wrong_arguments_in_their_order(self):
        for value in odd_values():
            self.told(InvalidGraph, -1, Kept, value, value)
            self.told(InvalidQuestion, 0, Kept, GRAPH, value)
        self.told(InvalidGraph, 1, Kept, (("b", "a"), ()), None)
        self.told(InvalidQuestion, 1, Kept, GRAPH, ("star", None))
        kept = Kept(GRAPH, FORWARD)
        kept.change((("cut", AXB),))
        ahead = (kept.graph(), kept.pairs(), kept.touched())
        for value in odd_values():
            if value not in ((), []):
                self.told(InvalidDeed, 0 if isinstance(value, (tuple, list)) else -1, kept.change, value)
                self.told(InvalidDeed, 1, kept.change, (("drop", "b"), value))
        self.told(InvalidDeed, 2, kept.change, [("drop", "b"), ("node", "e"), ("line", AXB, True)])
        self.same((kept.graph(), kept.pairs(), kept.touched()), ahead)
        self.same([name for name in vars(kept) if not name.startswith("_")], [])

    def test_the_greatest_in_good_time(self):
        started = time.time()
        rng = random.Random(244)
        nodes = tuple(sorted(f"n{at:02d}" for at in range(30)))
        lines = {}
        while len(lines) < 80:
            lines[(rng.choice(nodes), rng.choice(["x", "y"]), rng.choice(nodes))] = 1
        graph = (nodes, tuple(sorted(lines.items())))
        question = ("row", (("star", ("any", 1)), A) + (("any", 1),) * 6)
        kept = Kept(graph, question)
        self.assertEqual(kept_machine(question).many, 128)
        for _ in range(4):
            line = rng.choice(sorted(lines))
            ahead = kept.pairs()
            for batch in ((("cut", line),), (("line", line, 1),)):
                effect = kept.change(batch)
                self.same(effect, plain_effect(ahead, kept.pairs()))
                ahead = kept.pairs()
        self.same(kept.pairs(), answers(graph, question))
        many = sum(len(field(graph, question, node)) for node in nodes[:3])
        self.assertLessEqual(many, 3 * 30 * 128)
        self.assertIs(check_field(graph, question, nodes[0], field(graph, question, nodes[0])), True)
        self.assertLess(time.time() - started, 10)
