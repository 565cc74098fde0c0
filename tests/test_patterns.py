import itertools
import random
import time

from spelledways.errors import InvalidPattern, InvalidSize, Refused
from spelledways.graphs import EMPTY
from spelledways.patterns import check_lacking, check_row, keeps, lacking, need_pattern, row_walks, rows
from spelledways.places import answers_ask
from spelledways.search import answers, walk_for
from spelledways.shut import check_shut, shut_set, widest_shut
from tests.common import Case, nested, odd_values
from tests.test_places import A, AXB, BXC, GRAPH, small_graph, small_question
from tests.test_search import greatest_graph

STEP = ("one", "k", 1)
LINES = ((("a", "k", "b"), 1), (("b", "k", "a"), 1), (("b", "k", "c"), 1))
KGRAPH = (("a", "b", "c"), LINES)
PATTERN = (2, ((0, STEP, 1), (1, STEP, "c")))
BOTH = ("either", (("any", 1), ("any", -1)))


def random_pattern(rng, graph, places=3, asks=4):
    many = rng.randint(0, places)
    ends = list(range(many)) * 2 + list(graph[0])[:2] + (["q"] if rng.random() < 0.1 else []) + ([] if many or graph[0] else ["a"])
    told = []
    for _ in range(rng.randint(0, asks)):
        question = rng.choice([small_question(rng, 3), ("any", 1), ("maybe", ("any", -1)), A, BOTH, ("star", A)])
        told.append((rng.choice(ends), question, rng.choice(ends)))
    return many, tuple(told)


def meant(ask, row):
    return tuple(row[end] if type(end) is int else end for end in (ask[0], ask[2]))


def plain_rows(graph, pattern):
    """The rows that keep all asks, by trying all rows of nodes, ask by ask."""
    pairs = [answers(graph, question) for _, question, _ in pattern[1]]
    return tuple(row for row in itertools.product(graph[0], repeat=pattern[0])
                 if all(meant(ask, row) in told for ask, told in zip(pattern[1], pairs)))


class FormTest(Case):
    def test_right_ones(self):
        for value in ((0, ()), (4, ()), (0, (("a", STEP, "b"),)), (1, ((0, STEP, 0),)), (4, ((3, ("empty",), "zzzz"),) * 6), PATTERN):
            self.assertIsNone(need_pattern(value))
        self.assertIsNone(need_pattern(value=(1, (("0", STEP, 0),))))

    def test_wrong_ones(self):
        for value in (None, (), [0, ()], (0,), (0, (), ()), (5, ()), (-1, ()), (True, ()), ("1", ()), (None, ()), (2, []), (2, None), (2, "ab"), (2, {}),
                      (1, ((0, STEP, 0),) * 7), (1, (None,) * 7), (5, (None,)), ((), ()), "ab", 3):
            self.told(InvalidPattern, -1, need_pattern, value)
        right = (0, STEP, 1)
        for ask in (None, (), [0, STEP, 1], (0, STEP), (0, STEP, 1, 1), (2, STEP, 1), (0, STEP, 2), (-1, STEP, 0), (True, STEP, 0), (0, STEP, False),
                    (0, STEP, None), (None, STEP, 0), ("A", STEP, 0), (0, STEP, ""), ("abcde", STEP, 0), (0, None, 1), (0, ["one", "k", 1], 1),
                    (0, ("one", "k", 0), 1), (0, ("row", [STEP]), 1), ((0,), STEP, 1), (0, STEP, ["a"]), "abc", (0, ("star", nested(29, tuple)), 1)):
            self.told(InvalidPattern, 0, need_pattern, (2, (ask,)))
            self.told(InvalidPattern, 2, need_pattern, (2, (right, right, ask, None)))
        self.told(InvalidPattern, 0, need_pattern, (0, (right,)))
        self.told(InvalidPattern, 5, need_pattern, (2, (right,) * 5 + ((0, STEP, 2),)))

    def test_any_value(self):
        for value in odd_values():
            self.told(InvalidPattern, -1, need_pattern, value)
            self.told(InvalidPattern, -1, need_pattern, (value, ()))
            self.told(InvalidPattern, 0, need_pattern, (2, (value,)))
            if value != ():
                self.told(InvalidPattern, -1 if not isinstance(value, tuple) else 0, need_pattern, (2, value))
            if value is not True and value is not False:
                self.told(InvalidPattern, 0, need_pattern, (4, ((value, STEP, 1),)))
            self.told(InvalidPattern, 1, need_pattern, (4, ((0, STEP, 1), (0, value, 1))))


class RowsTest(Case):
    def test_beside_trying_all_rows(self):
        rng = random.Random(361)
        found = 0
        for _ in range(200):
            graph = small_graph(rng, nodes=("a", "b", "c"), lines=5)
            pattern = random_pattern(rng, graph)
            self.assertIsNone(need_pattern(pattern))
            wanted = plain_rows(graph, pattern)
            self.same(rows(graph, pattern), wanted)
            found += len(wanted)
            for row in itertools.product(graph[0], repeat=pattern[0]):
                self.look_at(rng, graph, pattern, row, row in wanted)
        self.assertGreater(found, 300)

    def look_at(self, rng, graph, pattern, row, kept):
        self.assertIs(keeps(graph, pattern, row), kept)
        asks = [(meant(ask, row)[0], ask[1], meant(ask, row)[1]) for ask in pattern[1]]
        walks = tuple(walk_for(graph, ask) for ask in asks)
        paper = lacking(graph, pattern, row)
        if kept:
            self.same((row_walks(graph, pattern, row), paper), (walks, None))
            self.assertIs(check_row(graph, pattern, row, walks), True)
        else:
            self.told(Refused, "row", row_walks, graph, pattern, row)
            at = walks.index(None)
            self.same(paper, (at, shut_set(graph, asks[at])))
            self.assertIs(check_lacking(graph, pattern, row, paper), True)
            self.assertIs(check_lacking(graph, pattern, row, (at, widest_shut(graph, asks[at]))), True)
            self.assertIs(check_row(graph, pattern, row, walks), False)
        # Just one of the two has papers: a shut set shows of an ask that no walk answers it.
        for at, ask in enumerate(asks):
            some = () if walks[at] is not None else shut_set(graph, ask)
            self.assertIs(check_lacking(graph, pattern, row, (at, some)), check_shut(graph, ask, some))
        if len(walks) > 1:
            other = walks[1:] + walks[:1]
            wanted = all(answers_ask(graph, ask, walk) for ask, walk in zip(asks, other))
            self.assertIs(check_row(graph, pattern, row, other), wanted)
            self.assertIs(check_row(graph, pattern, row, walks[1:]), False)
            self.assertIs(check_row(graph, pattern, row, walks + walks[:1]), False)

    def test_edges(self):
        self.same(rows(graph=KGRAPH, pattern=PATTERN), (("a", "b"),))
        self.same((rows(KGRAPH, (0, ())), rows(KGRAPH, (1, ())), rows(EMPTY, (0, ())), rows(EMPTY, (2, ()))), (((),), (("a",), ("b",), ("c",)), ((),), ()))
        self.same(len(rows(KGRAPH, (3, ()))), 27)
        self.same((rows(KGRAPH, (0, (("a", STEP, "b"),))), rows(KGRAPH, (0, (("a", STEP, "c"),)))), (((),), ()))
        self.same((rows(KGRAPH, (2, (("a", STEP, "c"),))), rows(KGRAPH, (1, (("q", ("empty",), "q"),)))), ((), ()))
        self.same(rows(KGRAPH, (1, ((0, STEP, "q"),))), ())
        self.same(rows(KGRAPH, (1, ((0, ("row", (STEP, STEP)), 0),))), (("a",), ("b",)))
        self.same(rows(KGRAPH, (2, ((0, STEP, 0),))), ())
        self.same(rows(KGRAPH, (2, ((1, STEP, 0),))), (("a", "b"), ("b", "a"), ("c", "b")))
        self.same(keeps(graph=KGRAPH, pattern=PATTERN, row=("a", "b")), True)
        self.same((keeps(KGRAPH, PATTERN, ("b", "a")), keeps(KGRAPH, (0, ()), ())), (False, True))
        self.same(lacking(graph=KGRAPH, pattern=PATTERN, row=("b", "a"))[0], 1)
        self.same(row_walks(graph=KGRAPH, pattern=PATTERN, row=("a", "b"))[1], ("b", ((("b", "k", "c"), 1),)))
        self.same((row_walks(KGRAPH, (0, ()), ()), lacking(KGRAPH, (0, ()), ())), ((), None))
        self.same(lacking(KGRAPH, (1, ((0, ("empty",), "q"),)), ("a",)), (0, (("a", 0),)))
        self.same(lacking(KGRAPH, (1, (("q", STEP, 0),)), ("a",)), (0, ()))
        self.same((check_row(KGRAPH, (0, ()), (), ()), check_lacking(KGRAPH, (0, ()), (), (0, ()))), (True, False))

    def test_wrong_rows(self):
        walks = row_walks(KGRAPH, PATTERN, ("a", "b"))
        for row in odd_values() + [["a", "b"], ("a",), ("a", "b", "c"), ("a", "q"), ("a", 1), ("a", None), ("a", ("b",)), "ab", ()]:
            for call in (keeps, row_walks, lacking):
                self.told(InvalidSize, "row", call, KGRAPH, PATTERN, row)
            self.assertIs(check_row(KGRAPH, PATTERN, row, walks), False)
            self.assertIs(check_lacking(KGRAPH, PATTERN, row, (0, ())), False)
            if row != ():
                self.told(InvalidSize, "row", keeps, KGRAPH, (0, ()), row)
        self.told(InvalidSize, "row", row_walks, KGRAPH, (1, ((0, STEP, "q"),)), ("q",))

    def test_any_value(self):
        row, paper = ("a", "b"), row_walks(KGRAPH, PATTERN, ("a", "b"))
        other = lacking(KGRAPH, PATTERN, ("b", "a"))
        self.assertIs(check_row(graph=KGRAPH, pattern=PATTERN, row=row, value=paper), True)
        self.assertIs(check_lacking(graph=KGRAPH, pattern=PATTERN, row=("b", "a"), value=other), True)
        for value in odd_values() + [list(paper), paper[::-1], (paper[0], list(paper[1])), (paper[0], (paper[1][0], list(paper[1][1])))]:
            self.assertIs(check_row(KGRAPH, PATTERN, row, value), False)
            self.assertIs(check_row(KGRAPH, PATTERN, row, (paper[0], value)), False)
        for value in odd_values() + [list(other), other + (1,), other[::-1], (0, other[1]), (2, other[1]), (True, other[1]), (-1, other[1]), ("1", other[1]),
                                     (1, list(other[1])), (1, other[1][::-1] + (("q", 0),))]:
            self.assertIs(check_lacking(KGRAPH, PATTERN, ("b", "a"), value), False)
            self.assertIs(check_lacking(KGRAPH, PATTERN, ("b", "a"), (1, value)), False)
            self.assertIs(check_lacking(KGRAPH, PATTERN, ("b", "a"), (value, other[1])), False)
        self.assertIs(check_row(GRAPH, (2, ((0, A, 1),)), ("a", "b"), (("a", ((AXB, 1),)),)), True)
        self.assertIs(check_row(GRAPH, (2, ((0, A, 1),)), ("a", "b"), (("b", ((BXC, 1),)),)), False)

    def test_the_greatest_in_good_time(self):
        started = time.time()
        nodes = tuple("abcdef")
        lines = {(one, kind, other): 1 for one in nodes for other in nodes for kind in "x" if one < other}
        lines.update({(other, "y", one): 1 for one in nodes for other in nodes if one < other})
        graph = (nodes, tuple(sorted(lines.items())))
        question = ("row", (("star", ("any", 1)), A) + (("any", 1),) * 4)
        told = rows(graph, (3, ((0, question, 1), (1, question, 2), (2, question, 0), (0, ("any", 1), 1), (1, A, 2), (0, BOTH, 2))))
        self.same(told, plain_rows(graph, (3, ((0, question, 1), (1, question, 2), (2, question, 0), (0, ("any", 1), 1), (1, A, 2), (0, BOTH, 2)))))
        great = greatest_graph()
        pattern = (4, tuple((at % 4, question, (at + 1) % 4) for at in range(6)))
        row = great[0][:4]
        self.assertTrue(keeps(great, pattern, row) == (lacking(great, pattern, row) is None))
        self.same(len(rows(great, (4, ()))), 12 ** 4)
        self.assertLess(time.time() - started, 4)
