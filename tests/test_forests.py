import itertools
import random
import time

from spelledways.errors import InvalidSize, Refused
from spelledways.forests import count_rows, ring_of_places, row_at, row_number
from spelledways.graphs import EMPTY
from spelledways.joins import sieve
from spelledways.patterns import rows
from tests.common import Case, odd_values
from tests.test_joins import RING
from tests.test_patterns import BOTH, KGRAPH, PATTERN, STEP, plain_rows, random_pattern
from tests.test_places import A, small_graph
from tests.test_search import greatest_graph


def plain_ring(pattern):
    """The ring, by trying all tuples of unlike places, shorter ones first."""
    joined = {(one, other) for one, _, other in pattern[1] if type(one) is int and type(other) is int}
    joined |= {(other, one) for one, other in joined}
    for many in (3, 4):
        for ring in itertools.permutations(range(pattern[0]), many):
            if all((one, other) in joined for one, other in zip(ring, ring[1:] + ring[:1])):
                return ring
    return None


class RingTest(Case):
    def test_all_patterns_of_asks_between_places(self):
        pairs = list(itertools.combinations(range(4), 2))
        for many in range(len(pairs) + 1):
            for some in itertools.combinations(pairs, many):
                pattern = (4, tuple((one, A, other) for one, other in some))
                turned = (4, tuple((other, A, one) for one, other in some))
                self.same((ring_of_places(pattern), ring_of_places(turned)), (plain_ring(pattern),) * 2)

    def test_edges(self):
        self.same(ring_of_places(pattern=RING), (0, 1, 2))
        for pattern in ((0, ()), (4, ()), PATTERN, (2, ((0, A, 1), (1, A, 0), (0, A, 0))), (3, ((0, A, 1), (1, A, 2), (0, A, "a"), ("a", A, 2))),
                        (1, ((0, A, 0),) * 6), (4, ((0, A, 1), (0, A, 2), (0, A, 3))), (3, ((0, A, 1), (0, A, 1), (1, A, 2), (2, A, 1)))):
            self.same(ring_of_places(pattern), None)
        self.same(ring_of_places((4, ((0, A, 1), (1, A, 2), (2, A, 3), (3, A, 0)))), (0, 1, 2, 3))
        self.same(ring_of_places((4, ((0, A, 2), (2, A, 1), (1, A, 3), (3, A, 0)))), (0, 2, 1, 3))
        # Two rings: the shorter one, of two as short the less.
        self.same(ring_of_places((4, ((0, A, 1), (1, A, 2), (2, A, 3), (3, A, 0), (1, A, 3)))), (0, 1, 3))
        self.same(ring_of_places((4, ((3, A, 1), (1, A, 2), (3, A, 2), (2, A, 3), (0, A, 1)))), (1, 2, 3))
        rng = random.Random(411)
        for _ in range(200):
            pattern = random_pattern(rng, KGRAPH, 4, 6)
            self.same(ring_of_places(pattern), plain_ring(pattern))


class NumbersTest(Case):
    def test_beside_trying_all_rows(self):
        rng = random.Random(412)
        found = 0
        for _ in range(150):
            graph = small_graph(rng)
            pattern = random_pattern(rng, graph)
            wanted = plain_rows(graph, pattern)
            self.same(count_rows(graph, pattern), len(wanted))
            found += len(wanted)
            for number, row in enumerate(wanted):
                self.same((row_at(graph, pattern, number), row_number(graph, pattern, row)), (row, number))
            self.told(InvalidSize, "number", row_at, graph, pattern, len(wanted))
            for row in itertools.product(graph[0], repeat=pattern[0]):
                if row not in wanted:
                    self.told(Refused, "row", row_number, graph, pattern, row)
            self.look_at_sieve(graph, pattern, wanted)
        self.assertGreater(found, 250)

    def look_at_sieve(self, graph, pattern, wanted):
        """In a forest some row keeps all asks exactly if no lot is empty; then each node of each lot stands in one."""
        lots = sieve(graph, pattern)
        if plain_ring(pattern) is None and pattern[0] > 0:
            self.assertIs(bool(wanted), all(lots))
            if wanted:
                self.same(lots, tuple(tuple(sorted(set(nodes))) for nodes in zip(*wanted)))

    def test_edges(self):
        step = (2, ((0, STEP, 1),))
        self.same((count_rows(graph=KGRAPH, pattern=step), row_at(graph=KGRAPH, pattern=step, number=2)), (3, ("b", "c")))
        self.same(row_number(graph=KGRAPH, pattern=step, row=("b", "a")), 1)
        self.same((count_rows(KGRAPH, RING), sieve(KGRAPH, RING)), (0, (("a", "b"),) * 3))
        self.same((count_rows(KGRAPH, (0, ())), row_at(KGRAPH, (0, ()), 0), row_number(KGRAPH, (0, ()), ())), (1, (), 0))
        self.same((count_rows(EMPTY, (1, ())), count_rows(EMPTY, (0, ())), count_rows(KGRAPH, (0, (("a", STEP, "c"),)))), (0, 1, 0))
        self.same((count_rows(KGRAPH, (3, ())), row_at(KGRAPH, (3, ()), 26), row_number(KGRAPH, (3, ()), ("c", "a", "b"))), (27, ("c",) * 3, 19))

    def test_wrong_numbers_and_rows(self):
        step = (2, ((0, STEP, 1),))
        for value in odd_values() + [3, "1", 1.0]:
            self.told(InvalidSize, "number", row_at, KGRAPH, step, value)
            self.told(InvalidSize, "row", row_number, KGRAPH, step, value)
        for row in (["a", "b"], ("a",), ("a", "q"), ("a", 1), ("a", "b", "c")):
            self.told(InvalidSize, "row", row_number, KGRAPH, step, row)
        self.told(Refused, "row", row_number, KGRAPH, step, ("a", "c"))
        self.told(InvalidSize, "number", row_at, KGRAPH, RING, 0)

    def test_the_greatest_in_good_time(self):
        started = time.time()
        graph = greatest_graph()
        pattern = (4, ((0, BOTH, 1), (1, BOTH, 2), (2, BOTH, 3), (3, ("star", ("any", 1)), 0)))
        many = count_rows(graph, pattern)
        self.assertGreater(many, 1000)
        row = row_at(graph, pattern, many - 1)
        self.same(row_number(graph, pattern, row), many - 1)
        self.same(rows(graph, pattern)[-1], row)
        self.assertLess(time.time() - started, 3)
