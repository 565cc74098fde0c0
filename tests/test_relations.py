import random
import time

from spelledways.formulas import question_spread
from spelledways.graphs import EMPTY
from spelledways.relations import related
from spelledways.search import answers
from tests.common import Case
from tests.test_formulas import random_question
from tests.test_places import A, GRAPH, small_graph, small_question
from tests.test_search import greatest_graph


def plain_related(graph, question):
    """The pairs that a formula tells, as sets of pairs."""
    form, same = question[0], {(node, node) for node in graph[0]}
    if form in ("one", "any"):
        lines = [line for line, _ in graph[1] if form == "any" or line[1] == question[1]]
        return {(line[0], line[2])[::question[-1]] for line in lines}
    if form == "either":
        return set().union(*[plain_related(graph, part) for part in question[1]])
    if form in ("empty", "row"):
        found = same
        for part in question[1:] and question[1]:
            found = together(found, plain_related(graph, part))
        return found
    inner = plain_related(graph, question[1])
    # More rounds than there are pairs lead nowhere else.
    low, high = {"star": (0, 40), "some": (1, 40), "maybe": (0, 1), "times": question[2:]}[form]
    found, latest = set(), same
    for many in range(high + 1):
        found |= latest if many >= low else set()
        latest = together(latest, inner)
    return found


def together(some, others):
    return {(one, two) for one, middle in some for begin, two in others if begin == middle}


class RelatedTest(Case):
    def test_beside_answers_and_sets_of_pairs(self):
        rng = random.Random(381)
        found = 0
        for _ in range(400):
            graph = small_graph(rng)
            question = rng.choice([small_question(rng, 8), random_question(rng, 9, ("x", "y"))])
            if question_spread(question) <= 8:
                told = related(graph, question)
                self.same(told, answers(graph, question))
                self.same(told, tuple(sorted(plain_related(graph, question))))
                found += len(told)
        self.assertGreater(found, 400)

    def test_edges(self):
        self.same(related(graph=GRAPH, question=A), (("a", "b"), ("b", "c")))
        self.same(related(GRAPH, ("one", "x", -1)), (("b", "a"), ("c", "b")))
        self.same(related(GRAPH, ("any", 1)), (("a", "b"), ("b", "c"), ("c", "a")))
        for question in (("empty",), ("row", ()), ("times", A, 0, 0), ("star", ("either", ())), ("some", ("empty",))):
            self.same(related(GRAPH, question), (("a", "a"), ("b", "b"), ("c", "c")))
        for question in (("either", ()), ("one", "z", 1), ("some", ("either", ())), ("row", (A, ("either", ()))), ("times", ("either", ()), 1, 6)):
            self.same(related(GRAPH, question), ())
        self.same(related(GRAPH, ("times", A, 2, 6)), (("a", "c"),))
        self.same(related(GRAPH, ("maybe", A)), (("a", "a"), ("a", "b"), ("b", "b"), ("b", "c"), ("c", "c")))
        self.same((related(EMPTY, ("star", A)), related((("a", "b"), ()), ("star", A))), ((), (("a", "a"), ("b", "b"))))

    def test_the_greatest_in_good_time(self):
        started = time.time()
        graph = greatest_graph()
        for question in (("row", (("star", ("any", 1)), A) + (("any", 1),) * 4), ("times", ("some", ("either", (A, ("any", -1)))), 4, 4)):
            self.same(related(graph, question), answers(graph, question))
        self.assertLess(time.time() - started, 2)
