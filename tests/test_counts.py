import random
import time

from spelledways.counts import check_round, count_walks, first_walks, number_of, round_of, total, walk_at
from spelledways.errors import InvalidSize, Refused
from spelledways.graphs import EMPTY
from spelledways.places import answers_ask, machine_for, place_behind
from spelledways.search import walk_for
from spelledways.waysof import walk_end
from tests.common import Case, odd_values
from tests.test_formulas import random_question
from tests.test_places import A, AROUND, AXB, BXB, BXC, CYA, GRAPH, plain_answers, random_ask, short_walks, small_graph
from tests.test_search import greatest_graph

FORWARD = ("star", ("any", 1))
RINGS = ("a", FORWARD, "a")
MOST = 4


def rich_question(rng):
    """A question that is spelled by more walks than most."""
    part = random_question(rng, rng.randint(1, 4), kinds=("x", "y"))
    way = ("any", rng.choice([1, -1]))
    return rng.choice([part, ("star", part), ("star", ("either", (way, part))), ("row", (("star", way), part)),
                       ("row", (part, ("some", ("either", (way, A))))), ("times", ("either", (part, way)), 1, 3)])


def rich_ask(rng, graph):
    if rng.random() < 0.15:
        return random_ask(rng, graph)
    ends = [None, None] + list(graph[0])
    return rng.choice(ends), rich_question(rng), rng.choice(ends)


def many_places(graph, ask):
    return len(graph[0]) * machine_for(graph, ask[1]).many


class CountsTest(Case):
    def test_beside_a_plain_list_of_all_walks(self):
        rng = random.Random(311)
        seen = 0
        for _ in range(300):
            graph = small_graph(rng, lines=4)
            ask = rich_ask(rng, graph)
            walks = plain_answers(graph, ask, MOST)
            for steps in range(MOST + 1):
                here = [walk for walk in walks if len(walk[1]) == steps]
                self.same(count_walks(graph, ask, steps), len(here))
                for number, walk in enumerate(here):
                    self.same(walk_at(graph, ask, steps, number), walk)
                    self.same(number_of(graph, ask, walk), number)
                self.told(InvalidSize, "number", walk_at, graph, ask, steps, len(here))
            # Of at most 60 steps: as far as the plain list goes, the first ones are told.
            told = first_walks(graph, ask, 60)
            self.same(told[:len(walks)], tuple(walks[:60]))
            self.same(first_walks(graph, ask, 3), told[:3])
            self.assertTrue(all(len(walk[1]) > MOST for walk in told[len(walks):]))
            self.same(told[:1], tuple(walk for walk in [walk_for(graph, ask)] if walk is not None))
            seen += len(walks)
            right = set(walks)
            for walk in rng.sample(short_walks(graph, 3), min(20, len(short_walks(graph, 3)))):
                if walk not in right:
                    self.told(Refused, "walk", number_of, graph, ask, walk)
        self.assertGreater(seen, 1000)

    def test_the_last_ones(self):
        rng = random.Random(312)
        for _ in range(60):
            graph = small_graph(rng)
            ask = rich_ask(rng, graph)
            for steps in (0, 1, 7, 59, 60):
                many = count_walks(graph, ask, steps)
                for number in {0, many // 2, many - 1} - {-1}:
                    if many:
                        walk = walk_at(graph, ask, steps, number)
                        self.assertIs(answers_ask(graph, ask, walk), True)
                        self.same((len(walk[1]), number_of(graph, ask, walk)), (steps, number))
                self.told(InvalidSize, "number", walk_at, graph, ask, steps, many)

    def test_examples(self):
        self.same((count_walks(GRAPH, RINGS, 6), total(GRAPH, RINGS), total(GRAPH, (None, AROUND, None))), (1, None, 3))
        self.same(walk_at(graph=GRAPH, ask=RINGS, steps=3, number=0), ("a", ((AXB, 1), (BXC, 1), (CYA, 1))))
        self.same(first_walks(graph=GRAPH, ask=(None, AROUND, None), many=2), (("c", ((CYA, 1),)), ("b", ((BXC, 1), (CYA, 1)))))
        self.same(len(first_walks(GRAPH, (None, AROUND, None), 60)), 3)
        self.same(first_walks(GRAPH, RINGS, 0), ())
        self.same([len(walk[1]) for walk in first_walks(GRAPH, RINGS, 60)], list(range(0, 61, 3)))
        self.same(number_of(graph=GRAPH, ask=(None, FORWARD, None), walk=("c", ())), 2)
        self.same(count_walks(graph=GRAPH, ask=("q", FORWARD, None), steps=0), 0)
        loop = (("b",), ((BXB, 1),))
        odd = first_walks(loop, (None, ("row", (A, ("star", ("row", (A, A))))), None), 60)
        self.same([len(walk[1]) for walk in odd], list(range(1, 60, 2)))
        both = (None, ("star", ("either", (("any", 1), ("any", -1)))), None)
        self.same(count_walks(loop, both, 60), 2 ** 60)
        self.same(walk_at(loop, both, 60, 1), ("b", ((BXB, -1),) * 59 + ((BXB, 1),)))
        self.same(number_of(loop, both, ("b", ((BXB, 1),) * 60)), 2 ** 60 - 1)
        self.same(number_of(loop, both, ("b", ((BXB, 1),) * 61)), 2 ** 61 - 1)

    def test_wrong_sizes_in_their_order(self):
        for value in odd_values() + [61, "1", 2.0]:
            self.told(InvalidSize, "steps", count_walks, GRAPH, RINGS, value)
            self.told(InvalidSize, "steps", walk_at, GRAPH, RINGS, value, value)
            self.told(InvalidSize, "many", first_walks, GRAPH, RINGS, value)
            self.told(InvalidSize, "number", walk_at, GRAPH, RINGS, 3, value)
        for number in (1, -1, 10 ** 30):
            self.told(InvalidSize, "number", walk_at, GRAPH, RINGS, 3, number)
        self.told(InvalidSize, "number", walk_at, GRAPH, RINGS, 4, 0)
        self.told(InvalidSize, "number", walk_at, EMPTY, (None, FORWARD, None), 0, 0)
        self.told(Refused, "walk", number_of, GRAPH, RINGS, ("a", ((AXB, 1),)))
        self.told(Refused, "walk", number_of, GRAPH, RINGS, ("b", ()))


class RoundsTest(Case):
    def test_beside_counting_up_to_more_steps_than_places(self):
        rng = random.Random(313)
        seen = {True: 0, False: 0}
        for _ in range(300):
            graph = small_graph(rng, lines=rng.choice([2, 3, 5]))
            ask = rich_ask(rng, graph)
            many = many_places(graph, ask)
            if 2 * many > 60:
                continue
            told = [count_walks(graph, ask, steps) for steps in range(2 * many + 1)]
            # A ring has at most as many steps as there are places: so an endless ask has a walk of some such length.
            endless = any(told[many:])
            seen[endless] += 1
            self.same(total(graph, ask), None if endless else sum(told))
            found = round_of(graph, ask)
            self.assertIs(found is None, not endless)
            if endless:
                self.look_at_round(rng, graph, ask, found)
        self.assertGreater(min(seen.values()), 40)

    def look_at_round(self, rng, graph, ask, found):
        walk, steps, rest = found
        self.assertIs(check_round(graph, ask, found), True)
        self.assertTrue(steps)
        behind = place_behind(graph, ask[1], walk)
        for many in range(4):
            longer = (walk[0], walk[1] + steps * many)
            self.same(place_behind(graph, ask[1], longer), behind)
            self.assertIs(answers_ask(graph, ask, (walk[0], longer[1] + rest)), True)
        # Bent ones are right just if they tell the same of themselves.
        for _ in range(6):
            bent = self.bent(rng, graph, found)
            self.assertIs(check_round(graph, ask, bent), self.plain_check(graph, ask, bent))
        self.assertIs(check_round(graph, ask, ((walk[0], walk[1] + steps), steps * 2, steps + rest)), True)

    def bent(self, rng, graph, found):
        walk, steps, rest = found
        some = [(line, way) for line, _ in graph[1] for way in (1, -1)]
        lots = [walk[1], steps, rest]
        at = rng.randrange(3)
        place = rng.randint(0, len(lots[at]))
        lots[at] = lots[at][:place] + rng.choice([(), (rng.choice(some),)]) + lots[at][place + rng.randint(0, 1):]
        return (walk[0], lots[0]), lots[1], lots[2]

    def plain_check(self, graph, ask, value):
        (node, begin), steps, rest = value
        if not steps:
            return False
        for many in range(3):
            if not answers_ask(graph, ask, (node, begin + steps * many + rest)):
                return False
        once = (node, begin + steps)
        return place_behind(graph, ask[1], (node, begin)) == place_behind(graph, ask[1], once)

    def test_edges(self):
        ring = ((AXB, 1), (BXC, 1), (CYA, 1))
        for value in ((("a", ()), ring, ()), (("a", ring), ring, ring), (("a", ring[:1]), ring[1:] + ring[:1], ring[1:]), (("a", ()), ring * 2, ())):
            self.assertIs(check_round(graph=GRAPH, ask=RINGS, value=value), True)
        for value in ((("a", ()), (), ()), (("a", ()), (), ring), (("a", ()), ring[:2], ring[2:]), (("b", ()), ring[1:] + ring[:1], ring[1:]),
                      (("a", ()), ring, ring[:1]), (("a", ()), ring, ring[1:]), (("a", ring[:1]), ring, ring[1:]), (("a", ()), list(ring), ()),
                      [("a", ()), ring, ()], (["a", ()], ring, ()), (("a", ()), ring, []), (("a", ()), ring), (("a", ()), ring, (), ()),
                      (("a", []), ring, ()), (("a", ()), ((AXB, True),) + ring[1:], ()), (None, ring, ()), (("a", ()), ring, None)):
            self.assertIs(check_round(GRAPH, RINGS, value), False, value)
        for value in odd_values():
            self.assertIs(check_round(GRAPH, RINGS, value), False)
            self.assertIs(check_round(GRAPH, RINGS, (value, ring, ())), False)
            self.assertIs(check_round(GRAPH, RINGS, (("a", ()), value, ())), False)
            if value != ():
                self.assertIs(check_round(GRAPH, RINGS, (("a", ()), ring, value)), False)
        # The states have to be the same as well as the nodes.
        even = ("a", ("star", ("row", (("any", 1),) * 2)), "a")
        self.assertIs(check_round(GRAPH, even, (("a", ()), ring * 2, ())), True)
        self.assertIs(check_round(GRAPH, even, (("a", ()), ring, ring)), False)
        loop = (("b",), ((BXB, 1),))
        self.same(round_of(graph=loop, ask=("b", ("row", (A, ("star", A))), None)), (("b", ((BXB, 1),)), ((BXB, 1),), ()))
        for ask in ((None, FORWARD, "q"), ("q", FORWARD, None), (None, AROUND, None), (None, ("either", ()), None), (None, ("times", A, 0, 6), None)):
            self.same(round_of(GRAPH, ask), None)
            self.assertTrue(total(GRAPH, ask) is not None)
        self.same((total(EMPTY, (None, FORWARD, None)), round_of(EMPTY, (None, FORWARD, None))), (0, None))
        self.same(total(graph=GRAPH, ask=(None, ("maybe", A), None)), 5)

    def test_rings_that_lead_to_no_goal_do_not_count(self):
        lines = (("a", "x", "b"), ("b", "x", "a"), ("a", "y", "c"), ("d", "y", "c"), ("c", "z", "c"))
        graph = (("a", "b", "c", "d"), tuple((line, 1) for line in lines))
        self.same(total(graph, ("d", ("row", (("one", "y", 1), ("star", ("one", "x", 1)))), None)), 1)
        self.same(total(graph, ("d", ("row", (("one", "y", 1), FORWARD)), "d")), 0)
        self.same(total(graph, ("b", FORWARD, "d")), 0)
        self.same(total(graph, ("d", FORWARD, "c")), None)
        self.same(total(graph, ("a", FORWARD, "d")), 0)
        self.same(walk_end(round_of(graph, ("a", FORWARD, "c"))[0]) in "abc", True)

    def test_the_greatest_in_good_time(self):
        started = time.time()
        graph = greatest_graph()
        question = ("row", (("star", ("either", (("any", 1), ("any", -1)))), A, ("any", -1), ("any", 1), ("maybe", A)))
        for ask in ((None, question, None), ("n0", question, "n5")):
            many = count_walks(graph, ask, 60)
            self.assertGreater(many, 10 ** 30)
            walk = walk_at(graph, ask, 60, many - 1)
            self.same(number_of(graph, ask, walk), many - 1)
            self.same(len(first_walks(graph, ask, 60)), 60)
            self.assertIsNone(total(graph, ask))
            self.assertIs(check_round(graph, ask, round_of(graph, ask)), True)
        nodes = tuple(sorted("n" + str(at) for at in range(12)))
        lines = {(nodes[at], kind, nodes[at + 1]): 0 for at in range(11) for kind in ("w", "x", "y")}
        down = (nodes, tuple(sorted(lines.items())))
        self.same(total(down, (nodes[0], FORWARD, nodes[-1])), 3 ** 11)
        self.assertLess(time.time() - started, 4)
