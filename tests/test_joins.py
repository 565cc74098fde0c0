import itertools
import random
import time

from spelledways.errors import InvalidSize
from spelledways.graphs import EMPTY
from spelledways.joins import check_strikes, rows_by, sieve, sizes_by, strikes
from spelledways.patterns import rows
from spelledways.search import answers
from tests.common import Case, odd_values
from tests.test_patterns import BOTH, KGRAPH, PATTERN, STEP, meant, plain_rows, random_pattern
from tests.test_places import A, small_graph
from tests.test_search import greatest_graph

RING = (3, ((0, STEP, 1), (1, STEP, 2), (2, STEP, 0)))


def kept_by(graph, pattern):
    return [set(answers(graph, question)) for _, question, _ in pattern[1]]


def plain_size(graph, pattern, some):
    """How many partial rows keep some asks, by trying all nodes at just their places."""
    pairs = kept_by(graph, pattern)
    places = sorted({end for at in some for end in (pattern[1][at][0], pattern[1][at][2]) if type(end) is int})
    many = 0
    for nodes in itertools.product(graph[0], repeat=len(places)):
        row = dict(zip(places, nodes))
        many += all(meant(pattern[1][at], row) in pairs[at] for at in some)
    return many


class Struck:
    """Lots from which nodes are struck, by the words of the document."""

    def __init__(self, graph, pattern):
        self.pattern = pattern
        self.pairs = kept_by(graph, pattern)
        self.lots = [list(graph[0]) for _ in range(pattern[0])]

    def ends(self, at):
        return {end for end in (self.pattern[1][at][0], self.pattern[1][at][2]) if type(end) is int}

    def keeps(self, at, row):
        return meant(self.pattern[1][at], row) in self.pairs[at]

    def joined(self, place):
        return {end for at in range(len(self.pattern[1])) if place in self.ends(at) for end in self.ends(at)} - {place}

    def may_go(self, place, node, other):
        numbers = range(len(self.pattern[1]))
        if other == place:
            return not all(self.keeps(at, {place: node}) for at in numbers if self.ends(at) <= {place})
        between = [at for at in numbers if self.ends(at) == {place, other}]
        partners = [one for one in self.lots[other] if all(self.keeps(at, {place: node, other: one}) for at in between)]
        return other in self.joined(place) and not partners

    def all_that_may_go(self):
        return [(place, node, other) for place, lot in enumerate(self.lots) for node in lot
                for other in range(self.pattern[0]) if self.may_go(place, node, other)]

    def told(self):
        return tuple(tuple(lot) for lot in self.lots)


class JoinsTest(Case):
    def test_beside_trying_all_rows(self):
        rng = random.Random(401)
        found = 0
        for _ in range(150):
            graph = small_graph(rng)
            pattern = random_pattern(rng, graph)
            wanted = plain_rows(graph, pattern)
            found += len(wanted)
            orders = list(itertools.permutations(range(len(pattern[1]))))
            for order in rng.sample(orders, min(4, len(orders))):
                self.same(rows_by(graph, pattern, order), wanted)
                sizes = tuple(plain_size(graph, pattern, order[:many + 1]) for many in range(len(order)))
                self.same(sizes_by(graph, pattern, order), sizes)
        self.assertGreater(found, 300)

    def test_edges(self):
        self.same((sizes_by(KGRAPH, PATTERN, (0, 1)), rows_by(KGRAPH, PATTERN, (1, 0))), ((3, 1), (("a", "b"),)))
        self.same((sizes_by(graph=KGRAPH, pattern=PATTERN, order=(1, 0)), rows_by(graph=KGRAPH, pattern=PATTERN, order=(0, 1))), ((1, 1), (("a", "b"),)))
        for pattern in ((0, ()), (1, ()), (2, ())):
            self.same((sizes_by(KGRAPH, pattern, ()), rows_by(KGRAPH, pattern, ())), ((), rows(KGRAPH, pattern)))
        self.same((rows_by(EMPTY, (0, ()), ()), rows_by(EMPTY, (1, ()), ())), (((),), ()))
        kept, broken = ("a", STEP, "b"), ("a", STEP, "c")
        self.same((sizes_by(KGRAPH, (2, (kept, (0, STEP, 1))), (0, 1)), sizes_by(KGRAPH, (2, (broken, (0, STEP, 1))), (1, 0))), ((1, 3), (3, 0)))
        self.same((rows_by(KGRAPH, (1, (kept,)), (0,)), rows_by(KGRAPH, (1, (broken,)), (0,))), ((("a",), ("b",), ("c",)), ()))
        self.same((sizes_by(KGRAPH, (0, (kept, kept)), (1, 0)), rows_by(KGRAPH, (0, (kept,)), (0,))), ((1, 1), ((),)))
        # An ask of a place with itself; asks turned about; one that is put twice.
        around = (2, ((1, ("row", (STEP, STEP)), 1), (1, ("one", "k", -1), 0), (0, STEP, 1), (0, STEP, 1)))
        self.same((sizes_by(KGRAPH, around, (0, 1, 2, 3)), rows_by(KGRAPH, around, (3, 2, 1, 0))), ((2, 2, 2, 2), (("a", "b"), ("b", "a"))))
        self.same(sizes_by(KGRAPH, (1, ((0, STEP, "q"),)), (0,)), (0,))

    def test_wrong_orders(self):
        for order in odd_values() + [[0, 1], (0,), (1,), (0, 1, 2), (0, 0), (1, 1), (0, 2), (-1, 0), (0, True), (False, 1), (0, "1"), (0, None), ("0", "1")]:
            self.told(InvalidSize, "order", rows_by, KGRAPH, PATTERN, order)
            self.told(InvalidSize, "order", sizes_by, KGRAPH, PATTERN, order)
            if order != ():
                self.told(InvalidSize, "order", rows_by, KGRAPH, (1, ()), order)
        self.told(InvalidSize, "order", sizes_by, KGRAPH, (1, ()), [])


class SieveTest(Case):
    def test_strikes_in_any_order(self):
        rng = random.Random(402)
        seen = [0, 0]
        for _ in range(150):
            graph = small_graph(rng)
            pattern = random_pattern(rng, graph)
            told, wanted = strikes(graph, pattern), sieve(graph, pattern)
            self.assertIs(check_strikes(graph, pattern, told), True)
            plain = Struck(graph, pattern)
            for place, node, other in told:
                self.assertTrue(plain.may_go(place, node, other))
                plain.lots[place].remove(node)
            self.same((plain.told(), plain.all_that_may_go()), (wanted, []))
            self.same(len(told), sum(len(graph[0]) - len(lot) for lot in wanted))
            for _ in range(3):
                self.look_at_order(rng, graph, pattern, wanted)
            for row in rows(graph, pattern):
                self.assertTrue(all(node in lot for node, lot in zip(row, wanted)))
            self.look_at_bent(rng, graph, pattern, told)
            seen[bool(told)] += 1
        self.assertGreater(min(seen), 30)

    def look_at_order(self, rng, graph, pattern, wanted):
        plain, told = Struck(graph, pattern), []
        while plain.all_that_may_go():
            told.append(rng.choice(plain.all_that_may_go()))
            plain.lots[told[-1][0]].remove(told[-1][1])
            if rng.random() < 0.2:
                self.assertIs(check_strikes(graph, pattern, tuple(told)), True)
        self.same(plain.told(), wanted)
        self.assertIs(check_strikes(graph, pattern, tuple(told)), True)

    def look_at_bent(self, rng, graph, pattern, told):
        if not graph[0] or not pattern[0]:
            return
        for _ in range(6):
            bent = list(told)
            change = rng.randrange(4)
            if change == 0:
                rng.shuffle(bent)
            elif change == 1 and bent:
                bent.pop(rng.randrange(len(bent)))
            elif change == 2 and bent:
                bent.append(rng.choice(bent))
            else:
                triple = (rng.randrange(pattern[0]), rng.choice(graph[0]), rng.randrange(pattern[0]))
                bent.insert(rng.randint(0, len(bent)), triple)
            self.assertIs(check_strikes(graph, pattern, tuple(bent)), self.plain_check(graph, pattern, bent))

    def plain_check(self, graph, pattern, told):
        plain = Struck(graph, pattern)
        for place, node, other in told:
            if node not in plain.lots[place] or not plain.may_go(place, node, other):
                return False
            plain.lots[place].remove(node)
        return True

    def test_the_greatest_lots(self):
        rng = random.Random(403)
        for _ in range(60):
            graph = small_graph(rng, nodes=("a", "b"), lines=4)
            pattern = random_pattern(rng, graph, places=2)
            # By trying all lots: the greatest in which nothing may be struck.
            greatest = [set() for _ in range(pattern[0])]
            subsets = [some for many in range(len(graph[0]) + 1) for some in itertools.combinations(graph[0], many)]
            for lots in itertools.product(subsets, repeat=pattern[0]):
                plain = Struck(graph, pattern)
                plain.lots = [list(lot) for lot in lots]
                if not plain.all_that_may_go():
                    greatest = [one | set(lot) for one, lot in zip(greatest, lots)]
            self.same(sieve(graph, pattern), tuple(tuple(sorted(lot)) for lot in greatest))

    def test_edges(self):
        self.same((sieve(graph=KGRAPH, pattern=PATTERN), len(strikes(graph=KGRAPH, pattern=PATTERN))), ((("a",), ("b",)), 4))
        self.same((sieve(KGRAPH, RING), strikes(KGRAPH, RING)[0][:2]), ((("a", "b"),) * 3, (0, "c")))
        self.same((sieve(KGRAPH, (0, ())), strikes(KGRAPH, (0, ())), sieve(EMPTY, (2, ()))), ((), (), ((), ())))
        self.same((sieve(KGRAPH, (2, ())), strikes(KGRAPH, (2, ()))), ((("a", "b", "c"),) * 2, ()))
        broken = (2, (("a", STEP, "c"), (0, STEP, 1)))
        self.same((sieve(KGRAPH, broken), len(strikes(KGRAPH, broken))), (((), ()), 6))
        self.same(sieve(KGRAPH, (1, (("a", STEP, "c"),))), ((),))
        self.same((sieve(KGRAPH, (0, (("a", STEP, "c"),))), strikes(KGRAPH, (0, (("a", STEP, "c"),)))), ((), ()))
        self.same(sieve(KGRAPH, (2, (("a", STEP, "b"),))), ((("a", "b", "c"),) * 2))
        self.same(sieve(KGRAPH, (2, ((0, STEP, 0),))), ((), ("a", "b", "c")))
        self.same(sieve(KGRAPH, (3, ((0, STEP, "q"), (1, STEP, 0)))), ((), (), ("a", "b", "c")))
        # With one partner for all asks between two places: one for each ask is not enough.
        both = (2, ((0, STEP, 1), (0, ("empty",), 1)))
        self.same(sieve(KGRAPH, both), ((), ()))

    def test_any_value(self):
        told = strikes(KGRAPH, PATTERN)
        self.assertIs(check_strikes(graph=KGRAPH, pattern=PATTERN, value=told), True)
        self.assertIs(check_strikes(KGRAPH, PATTERN, ()), True)
        self.assertIs(check_strikes(KGRAPH, PATTERN, told[:2]), True)
        for value in odd_values():
            self.assertIs(check_strikes(KGRAPH, PATTERN, value), value == () and isinstance(value, tuple))
            self.assertIs(check_strikes(KGRAPH, PATTERN, (value,)), False)
            self.assertIs(check_strikes(KGRAPH, PATTERN, told + (value,)), False)
            self.assertIs(check_strikes(KGRAPH, PATTERN, ((1, value, 1),)), False)
            self.assertIs(check_strikes(KGRAPH, PATTERN, ((value, "c", 1),)), False)
            self.assertIs(check_strikes(KGRAPH, PATTERN, ((1, "c", value),)), False)
        self.assertIs(check_strikes(KGRAPH, PATTERN, ((1, "c", 1),)), True)
        for value in (list(told), ([1, "c", 1],), ((True, "c", 1),), ((1, "c", True),), ((1, "c"),), ((1, "c", 1, 1),), ((1, "q", 1),), ((2, "c", 2),),
                      ((1, "c", 1), (1, "c", 1)), ((-1, "c", 1),), ((1, "c", -1),), ((1, "c", 2),), ((1, "b", 1),), told + told[:1], ((0, "a", 1),)):
            self.assertIs(check_strikes(KGRAPH, PATTERN, value), False, value)
        broken = (2, ((0, STEP, 1), ("a", STEP, "c")))
        self.assertIs(check_strikes(KGRAPH, broken, ((0, "a", 0), (1, "b", 1))), True)
        self.assertIs(check_strikes(KGRAPH, broken, ((0, "a", 1),)), False)
        self.assertIs(check_strikes(KGRAPH, broken, ((0, "c", 1), (0, "b", 0), (1, "a", 1))), True)
        # A place that is not joined shows nothing; a strike may be right only behind others.
        chain = (3, ((0, STEP, 1), (1, STEP, 2), (2, STEP, "c")))
        self.assertIs(check_strikes(KGRAPH, chain, ((2, "a", 2), (1, "b", 2), (2, "c", 2))), False)
        self.assertIs(check_strikes(KGRAPH, chain, ((2, "a", 2), (2, "c", 2), (1, "b", 2))), True)
        self.assertIs(check_strikes(KGRAPH, chain, ((1, "b", 2), (2, "a", 2), (2, "c", 2))), False)
        self.assertIs(check_strikes(KGRAPH, chain, ((0, "c", 2),)), False)
        self.assertIs(check_strikes(KGRAPH, chain, ((0, "c", 1),)), True)

    def test_the_greatest_in_good_time(self):
        started = time.time()
        graph = greatest_graph()
        question = ("row", (("star", ("any", 1)), A) + (("any", 1),) * 4)
        pattern = (4, ((0, A, 1), (1, BOTH, 2), (2, ("one", "y", -1), 3), (3, A, 0), (0, question, 2), ("n0", question, 3)))
        told = strikes(graph, pattern)
        self.assertIs(check_strikes(graph, pattern, told), True)
        self.same(sum(map(len, sieve(graph, pattern))), 48 - len(told))
        wanted = rows(graph, pattern)
        for order in ((0, 1, 2, 3, 4, 5), (5, 4, 3, 2, 1, 0), (4, 5, 0, 3, 1, 2)):
            self.same(rows_by(graph, pattern, order), wanted)
            self.same(sizes_by(graph, pattern, order)[-1], len(wanted))
        self.assertLess(time.time() - started, 4)
