import itertools
import random
import time

from spelledways.errors import Refused
from spelledways.graphs import EMPTY
from spelledways.places import goals, machine_for, moves, starts
from spelledways.search import reached, walk_for
from spelledways.shut import check_shut, shut_set, widest_shut
from tests.common import Case, odd_values
from tests.test_places import A, AXB, BXC, CYA, GRAPH, random_ask, small_graph
from tests.test_search import greatest_graph


def all_places(graph, ask):
    return [(node, state) for node in graph[0] for state in range(machine_for(graph, ask[1]).many)]


class ShutTest(Case):
    def plain_shut(self, graph, ask):
        """All shut sets, by trying all sets of places."""
        places = all_places(graph, ask)
        begin, ends = set(starts(graph, ask)), set(goals(graph, ask))
        behind = {place: {other for _, other in moves(graph, ask[1], place)} for place in places}
        for many in range(len(places) + 1):
            for some in itertools.combinations(places, many):
                lot = set(some)
                if begin <= lot and not lot & ends and all(behind[place] <= lot for place in lot):
                    yield some

    def test_beside_all_sets(self):
        rng = random.Random(151)
        seen = {True: 0, False: 0}
        for _ in range(160):
            graph = small_graph(rng, nodes=("a", "b"), lines=3)
            ask = random_ask(rng, graph)
            if len(all_places(graph, ask)) > 8:
                continue
            shut = set(self.plain_shut(graph, ask))
            seen[bool(shut)] += 1
            for many in range(len(all_places(graph, ask)) + 1):
                for some in itertools.combinations(all_places(graph, ask), many):
                    self.assertIs(check_shut(graph, ask, some), some in shut)
            self.assertIs(walk_for(graph, ask) is None, bool(shut))
            if shut:
                least, widest = set(shut_set(graph, ask)), set(widest_shut(graph, ask))
                self.assertIn(tuple(sorted(least)), shut)
                self.assertIn(tuple(sorted(widest)), shut)
                self.assertTrue(all(least <= set(some) <= widest for some in shut))
                self.same(shut_set(graph, ask), tuple(place for place, _ in reached(graph, ask)))
                for one, other in list(itertools.combinations(shut, 2))[:40]:
                    self.assertIs(check_shut(graph, ask, tuple(sorted(set(one) & set(other)))), True)
                    self.assertIs(check_shut(graph, ask, tuple(sorted(set(one) | set(other)))), True)
            else:
                self.told(Refused, "walk", shut_set, graph, ask)
                self.told(Refused, "walk", widest_shut, graph, ask)
        self.assertGreater(min(seen.values()), 30)

    def test_bent_shut_sets(self):
        rng = random.Random(152)
        for _ in range(120):
            graph = small_graph(rng)
            ask = random_ask(rng, graph)
            if walk_for(graph, ask) is not None:
                continue
            least, widest, places = shut_set(graph, ask), widest_shut(graph, ask), all_places(graph, ask)
            for some in (least, widest):
                self.assertIs(check_shut(graph, ask, some), True)
                self.assertIs(check_shut(graph, ask, list(some)), False)
                if len(some) > 1:
                    self.assertIs(check_shut(graph, ask, some[::-1]), False)
                if some:
                    self.assertIs(check_shut(graph, ask, some + some[-1:]), False)
                for goal in goals(graph, ask):
                    self.assertIs(check_shut(graph, ask, tuple(sorted(some + (goal,)))), False)
            for at in range(len(least)):
                self.assertIs(check_shut(graph, ask, least[:at] + least[at + 1:]), False)
            for place in set(places) - set(widest):
                self.assertIs(check_shut(graph, ask, tuple(sorted(widest + (place,)))), False)

    def test_edges(self):
        ask = ("a", A, "c")
        self.same((shut_set(GRAPH, ask), check_shut(GRAPH, ask, (("a", 0),))), ((("a", 0), ("b", 1)), False))
        self.same(shut_set(graph=GRAPH, ask=("q", A, None)), ())
        self.assertIs(check_shut(graph=GRAPH, ask=("q", A, None), value=()), True)
        self.assertIs(check_shut(GRAPH, ask, ()), False)
        self.same(widest_shut(graph=GRAPH, ask=(None, ("either", ()), None)), (("a", 0), ("b", 0), ("c", 0)))
        self.same((shut_set(EMPTY, (None, ("empty",), None)), widest_shut(EMPTY, (None, ("empty",), None))), ((), ()))
        for wide in (("a", ("star", A), "a"), (None, ("empty",), None), ("a", ("star", A), None)):
            self.told(Refused, "walk", shut_set, GRAPH, wide)
            self.told(Refused, "walk", widest_shut, GRAPH, wide)
            self.assertIs(check_shut(GRAPH, wide, (("a", 0),)), False)
        graph = (("a", "b", "c"), ((AXB, 5), (BXC, 1), (CYA, 0)))
        self.same(shut_set(graph, (None, ("row", (("one", "y", 1), ("one", "y", 1))), None)), (("a", 0), ("a", 1), ("b", 0), ("c", 0)))

    def test_any_value(self):
        ask = ("a", A, "c")
        right = (("a", 0), ("b", 1))
        self.assertIs(check_shut(GRAPH, ask, right), True)
        for value in odd_values():
            self.assertIs(check_shut(GRAPH, ask, value), False)
            self.assertIs(check_shut(GRAPH, ask, (value,)), False)
            self.assertIs(check_shut(GRAPH, ask, right + (value,)), False)
            self.assertIs(check_shut(GRAPH, ask, (right[0], ("b", value))), False)
            self.assertIs(check_shut(GRAPH, ask, (right[0], (value, 1))), False)
        for value in ((("a", False), ("b", 1)), (("a", 0), ("b", True)), (["a", 0], ("b", 1)), (("a", 0), ("b", 2)), (("a", 0), ("b", 1, 1)),
                      (("a", -1),) + right, (("a", 0), ("b", 1), ("q", 0)), (("a", 0), ("b", 1), "c0")):
            self.assertIs(check_shut(GRAPH, ask, value), False, value)

    def test_the_greatest_in_good_time(self):
        started = time.time()
        graph = greatest_graph()
        ask = (None, ("row", (("star", ("any", 1)), ("one", "x", -1)) + (("any", 1),) * 5 + (("one", "z", 1),)), None)
        wide = (None, ("row", (("star", ("any", 1)), A) + (("any", 1),) * 4), "q")
        for some in (ask, wide):
            self.assertIs(check_shut(graph, some, shut_set(graph, some)), True)
            self.assertIs(check_shut(graph, some, widest_shut(graph, some)), True)
        self.assertGreater(len(widest_shut(graph, wide)), 300)
        self.assertLess(time.time() - started, 3)
