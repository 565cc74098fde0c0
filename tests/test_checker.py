import random
import time

from spelledways.checker import contrary, sheet_for, sheet_holds
from spelledways.counts import check_round, round_of
from spelledways.distances import field
from spelledways.errors import InvalidSize, NoName
from spelledways.formulas import question_spread, spells
from spelledways.graphs import EMPTY
from spelledways.joins import check_strikes
from spelledways.least import check_fewest
from spelledways.lines import map_of_graph
from spelledways.pages import entries, is_root
from spelledways.patterns import keeps
from spelledways.places import answers_ask
from spelledways.prices import cheapest, check_heights
from spelledways.questiontext import read_question
from spelledways.records import put_image, put_record
from spelledways.recovery import recover
from spelledways.search import walk_for
from spelledways.shut import check_shut
from spelledways.spelling import always_same
from spelledways.tree import Tree
from spelledways.treewalks import built
from spelledways.within import check_loose, check_within, is_within
from tests.common import Case, nested, odd_values
from tests.test_counts import rich_ask
from tests.test_formulas import random_question
from tests.test_patterns import KGRAPH, PATTERN, STEP, random_pattern
from tests.test_places import A, AXB, GRAPH, random_ask, small_graph, small_question
from tests.test_search import greatest_graph
from tests.test_within import random_pair

KINDS = ("walk", "shut", "round", "heights", "field", "parting", "fewest", "loose", "within", "row", "lacking", "strikes", "tree", "disk")
PAIRS = {"walk": "shut", "shut": "walk", "loose": "within", "within": "loose", "row": "lacking", "lacking": "row"}
ALWAYS = ("field", "fewest", "strikes", "tree", "disk")


def small_pair(rng):
    while True:
        one, other = random_pair(rng, 4)
        if question_spread(one) + question_spread(other) <= 8:
            return one, other


def few_parts(rng):
    while True:
        question = random_question(rng, rng.randint(1, 6), ("x", "y"))
        if question_spread(question) <= 6:
            return question


def right_question(rng, word):
    """Some right question of a kind."""
    graph = small_graph(rng)
    ask = rng.choice([random_ask, rich_ask])(rng, graph)
    if word in ("walk", "shut", "round"):
        return graph, ask
    if word == "heights":
        return graph, ask, rng.choice([0, 1, 5, 12, 10 ** 12])
    if word == "field":
        return graph, small_question(rng), rng.choice(graph[0] + ("q",))
    if word in ("parting", "loose", "within"):
        return small_pair(rng)
    if word == "fewest":
        return few_parts(rng), rng.choice([(), ("x",), ["x", "y"], ("a", "x", "y")])
    if word in ("row", "lacking"):
        pattern = random_pattern(rng, graph, 2) if graph[0] else (0, ())
        return graph, pattern, tuple(rng.choice(graph[0]) for _ in range(pattern[0]))
    if word == "strikes":
        return graph, random_pattern(rng, graph)
    return (rng.randint(3, 16), graph) if word == "tree" else (rng.choice([0, 1, 7, 10 ** 12]), graph)


def plain_holds(word, question, value):
    """What the modules themselves tell of a sheet of the right form."""
    if word == "tree":
        return is_root(question[0], value) and repr(entries(value)) == repr(map_of_graph(question[1]))
    if word == "disk":
        return recover(value)[:2] == (question[0], map_of_graph(question[1]))
    if word == "heights":
        return check_heights(question[0], question[1], question[2], value)
    if word == "field":
        return repr(value) == repr(field(*question))
    if word == "parting":
        return spells(question[0], value) != spells(question[1], value)
    told = {"walk": answers_ask, "shut": check_shut, "round": check_round, "fewest": check_fewest, "loose": check_loose, "within": check_within,
            "strikes": check_strikes}
    return told[word](*question, value)


def is_there(word, question):
    """Whether there is some right sheet, told without one."""
    if word in ALWAYS:
        return True
    if word in ("walk", "shut"):
        return (walk_for(*question) is not None) == (word == "walk")
    if word == "round":
        return round_of(*question) is not None
    if word == "heights":
        told = cheapest(*question[:2])
        return told is None or told[0] >= question[2]
    if word == "parting":
        return not always_same(*question)
    if word in ("loose", "within"):
        return is_within(*question) == (word == "within")
    return keeps(*question) == (word == "row")


def bent_things(rng, value):
    """Things that are a little unlike a value, at each of its parts."""
    if isinstance(value, tuple):
        found = [list(value), value + (None,), value[:-1] if value else (0,), value + value[-1:]]
        for at, part in enumerate(value):
            found += [value[:at] + (thing,) + value[at + 1:] for thing in bent_things(rng, part)]
        return rng.sample(found, min(30, len(found)))
    if isinstance(value, bool) or value is None:
        return [0, 1]
    if isinstance(value, int):
        return [value + 1, value - 1, value == 1, str(value), None]
    return [value + "A", "", None, 0, (value,)]


class SheetsTest(Case):
    def test_each_kind(self):
        rng = random.Random(441)
        seen = {(word, there): 0 for word in KINDS for there in (True, False) if there or word not in ALWAYS}
        for word in KINDS:
            for _ in range(60):
                question = right_question(rng, word)
                sheet = sheet_for(word, question)
                there = is_there(word, question)
                seen[(word, there)] += 1
                self.assertIs(sheet is not None, there, (word, question))
                self.assertIs(sheet_holds(word, question, sheet), there)
                other = PAIRS.get(word)
                if other:
                    self.assertIs(sheet_for(other, question) is None, there)
                    self.assertIs(sheet_holds(other, question, sheet_for(other, question)), not there)
                    self.assertIs(sheet_holds(other, question, sheet), False)
        self.assertGreater(min(seen.values()), 2, seen)

    def test_each_part_of_a_right_one_bent(self):
        rng = random.Random(442)
        held = 0
        for word in KINDS:
            for _ in range(25):
                question = right_question(rng, word)
                sheet = sheet_for(word, question)
                if sheet is None:
                    continue
                for value in bent_things(rng, sheet):
                    told = sheet_holds(word, question, value)
                    self.assertIs(type(told), bool)
                    if word not in ("row", "lacking") and self.has_form(word, value):
                        self.assertIs(told, plain_holds(word, question, value), (word, question, value))
                    if word in ("field", "tree") and value != sheet and not is_like(value, sheet):
                        self.assertIs(told, False)
                    held += told
        self.assertGreater(held, 20)

    def has_form(self, word, value):
        """Whether the value may be handed to the plain checks, which take things of the right form alone."""
        if word == "disk":
            return isinstance(value, tuple) and len(value) == 3 and all(
                isinstance(file, tuple) and all(type(octet) is int and 0 <= octet < 256 for octet in file) for file in value)
        if word == "parting":
            return isinstance(value, tuple) and all(isinstance(letter, tuple) and len(letter) == 2 and type(letter[0]) is str and type(letter[1]) is int
                                                    and letter[1] in (1, -1) and letter[0].isalnum() and letter[0].islower() for letter in value)
        return word != "tree" or (isinstance(value, tuple) and is_root(3, value))

    def test_questions_bent_at_each_part(self):
        rng = random.Random(443)
        for word in KINDS:
            for _ in range(12):
                question = right_question(rng, word)
                sheet = sheet_for(word, question)
                wrong = [list(question), question + (None,), question[:-1], (), None]
                for at in range(len(question)):
                    for value in odd_values():
                        if not self.may_stand(word, question, at, value):
                            wrong.append(question[:at] + (value,) + question[at + 1:])
                for value in wrong:
                    self.assertIs(sheet_holds(word, value, sheet), False, (word, value))
                    self.told(InvalidSize, "question", sheet_for, word, value)

    def may_stand(self, word, question, at, value):
        """Whether an odd value is a right thing in a place: () for no kinds and for the row of no places, numbers, nodes."""
        if at == 1 and word == "fewest":
            return value in ((), [], ("a",), ("x", "y"), ("leaf",))
        if at == 2 and word in ("row", "lacking"):
            return isinstance(value, tuple) and len(value) == question[1][0] and all(node in question[0][0] for node in value)
        return (at == 2 and word == "heights") and type(value) is int and value >= 0 or at == 0 and word == "disk" and type(value) is int and value >= 0

    def test_any_value(self):
        rng = random.Random(444)
        right = {word: right_question(rng, word) for word in KINDS}
        for value in odd_values() + ["walks", "Walk", ("walk",), ["walk"]]:
            self.assertIs(sheet_holds(value, right["walk"], None), False)
            for call in (sheet_for, contrary):
                with self.assertRaises(NoName) as held:
                    call(*([value, None][:2 if call is sheet_for else 1]))
                self.assertIs(held.exception.name, value)
            for word in KINDS:
                self.assertIs(sheet_holds(word, value, value), False)
                self.told(InvalidSize, "question", sheet_for, word, value)
                for question in (right[word], right_question(rng, word)):
                    told = sheet_holds(word, question, value)
                    self.assertIs(type(told), bool)
                    if told:
                        self.assertIn((word, value), [("parting", ()), ("shut", ()), ("loose", ()), ("strikes", ()), ("row", ()), ("field", ()), ("heights", ())])
        self.assertIs(sheet_holds(word="walk", question=(GRAPH, ("a", A, "b")), value=("a", ((AXB, 1),))), True)
        self.same(sheet_for(word="walk", question=(GRAPH, ("a", A, "b"))), ("a", ((AXB, 1),)))

    def test_contraries(self):
        for word in KINDS:
            self.same(contrary(word=word), PAIRS.get(word))

    def test_examples_of_each_kind(self):
        one, two = read_question("!bus+"), read_question("[*bus+ bus+ ?a+]")
        self.same(sheet_for("parting", (one, two)), (("bus", 1), ("a", 1)))
        self.same((sheet_for("parting", (one, one)), sheet_for("parting", (("any", 1), ("one", "0", 1)))), (None, (("1", 1),)))
        self.assertIs(sheet_holds("parting", (("any", 1), ("one", "0", 1)), (("zz", 1),)), True)
        self.same(sheet_for("fewest", (("either", ()), ("a",))), ((), (), ()))
        self.assertIs(sheet_holds("fewest", (one, ["bus"]), sheet_for("fewest", (one, ("bus",)))), True)
        for word, question in (("fewest", (one, ["b", "a"])), ("fewest", (one, "bus")), ("tree", (2, EMPTY)), ("tree", (17, EMPTY)), ("tree", (True, EMPTY)),
                               ("disk", (-1, EMPTY)), ("disk", (True, EMPTY)), ("heights", (GRAPH, (None, A, None), -1)), ("heights", (GRAPH, (None, A, None), False)),
                               ("field", (GRAPH, A, None)), ("field", (GRAPH, A, "A")), ("row", (KGRAPH, PATTERN, ("a", "q"))), ("row", (KGRAPH, PATTERN, ["a", "b"])),
                               ("row", (KGRAPH, PATTERN, ("a",))), ("lacking", (KGRAPH, (2, ((0, STEP, 2),)), ("a", "b"))), ("strikes", (KGRAPH, (5, ()))),
                               ("walk", (GRAPH, ("a", A))), ("walk", [GRAPH, ("a", A, "b")]), ("walk", (("a",), ("a", A, "b"))), ("loose", (A, nested(30, tuple))),
                               ("within", (A,)), ("within", (A, A, A)), ("shut", ((("b", "a"), ()), (None, A, None)))):
            self.told(InvalidSize, "question", sheet_for, word, question)
            self.assertIs(sheet_holds(word, question, ()), False)

    def test_trees(self):
        told = map_of_graph(GRAPH)
        for most in (3, 4, 16):
            self.assertIs(sheet_holds("tree", (most, GRAPH), built(most, told)), True)
            tree = Tree(most)
            for key, value in told[::-1]:
                tree.put(key, value)
            self.assertIs(sheet_holds("tree", (most, GRAPH), tree.root()), True)
            tree.put("zz", 0)
            self.assertIs(sheet_holds("tree", (most, GRAPH), tree.root()), False)
        self.assertIs(sheet_holds("tree", (3, GRAPH), built(16, told)), False)
        graph = (("a", "b"), ((AXB, 1),))
        leaf = ("leaf", map_of_graph(graph))
        self.assertIs(sheet_holds("tree", (16, graph), leaf), True)
        for one, other in ((1, True), (0, False), (1, "1"), (0, None), (0, Tree(3)), (0, [0])):
            bent = ("leaf", tuple((key, other if value == one else value) for key, value in leaf[1]))
            self.assertIs(sheet_holds("tree", (16, graph), bent), False)
        self.assertIs(sheet_holds("tree", (16, graph), ("leaf", list(leaf[1]))), False)
        self.assertIs(sheet_holds("tree", (3, EMPTY), ("leaf", ())), True)

    def test_disks(self):
        told = map_of_graph(GRAPH)
        for disk, stamp in (((put_image(5, told), (), ()), 5), (((), put_image(5, told), ()), 5), ((put_image(4, ()), (), put_record(5, told)), 5),
                            (((), (), put_record(1, told) + (0, 0)), 1), ((put_image(9, ()), put_image(10, told), put_record(2, ())), 10), ((put_image(0, told), (), ()), 0)):
            self.assertIs(sheet_holds("disk", (stamp, GRAPH), disk), True)
            self.assertIs(sheet_holds("disk", (stamp + 1, GRAPH), disk), False)
            self.assertIs(sheet_holds("disk", (stamp, EMPTY), disk), False)
            self.assertIs(sheet_holds("disk", (stamp, GRAPH), list(disk)), False)
            self.assertIs(sheet_holds("disk", (stamp, GRAPH), disk[:2] + (list(disk[2]),)), False)
        self.assertIs(sheet_holds("disk", (0, EMPTY), ((), (), ())), True)
        self.assertIs(sheet_holds("disk", (0, EMPTY), ((True,), (), ())), False)

    def test_the_greatest_in_good_time(self):
        started = time.time()
        graph = greatest_graph()
        question = ("row", (("star", ("any", 1)), A) + (("any", 1),) * 4)
        ask, shut = ("n0", question, "n5"), ("n0", ("row", (question, ("one", "z", 1))), None)
        pattern = (4, ((0, A, 1), (1, ("any", -1), 2), (2, A, 3), (3, question, 0), (0, question, 2), ("n0", question, 3)))
        six = read_question("[*_+ x+ <4,4>_+]")
        for word, told in (("walk", (graph, ask)), ("shut", (graph, shut)), ("round", (graph, ask)), ("heights", (graph, shut, 10 ** 12)), ("field", (graph, question, "n0")),
                           ("parting", (read_question("[*_+ a+ _+ _+]"), read_question("[*_+ b+ _+ _+]"))), ("fewest", (six, ("a", "b", "x", "y", "z"))),
                           ("within", (A, six)), ("loose", (six, A)), ("row", (graph, pattern, graph[0][:4])), ("lacking", (graph, pattern, graph[0][:4])),
                           ("strikes", (graph, pattern)), ("tree", (3, graph)), ("disk", (10 ** 12, graph))):
            sheet = sheet_for(word, told)
            self.assertIs(sheet_holds(word, told, sheet), sheet is not None)
        self.assertLess(time.time() - started, 6)


def is_like(value, other):
    return repr(value) == repr(other)
