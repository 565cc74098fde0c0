import random
import re
import time

from spelledways.checker import sheet_holds
from spelledways.desk import Desk, call_text, read_call, run_lines
from spelledways.errors import InvalidAsk, InvalidCommand, InvalidOctets, InvalidQuestion, NoName, Refused
from spelledways.graphs import is_deed
from spelledways.places import need_ask
from spelledways.questiontext import question_text, read_question
from spelledways.records import put_image
from spelledways.running import meaning, run
from spelledways.store import Store
from tests.common import Case, odd_values
from tests.test_places import A, random_ask, small_graph, small_question
from tests.test_running import NEW, SIZES, outcome_of, random_call
from tests.test_search import greatest_graph

BUS = ("one", "bus", 1)
AXB = ("a", "bus", "b")
NUMBER, NODE = "(?:0|[1-9][0-9]{0,39})", "[0-9a-z]{1,4}"
PRICE = "(?:0|[1-9][0-9]{0,5}|1000000)"
LINE = f"{NODE} {NODE} {NODE}"
DEED = f"(?:(?:node|drop) {NODE}|line {LINE} {PRICE}|cut {LINE})"
FORMS = [
    "(?:undo|redo|look|names|rules|sync|draw|settle|sure)", f"graph(?: @{NUMBER})?", f"(?:leave|heard|unwatch) {NUMBER}", f"cut {NUMBER} {NUMBER} {NUMBER}",
    "(?:kept|let_go|allow|watch) [a-z]{1,8}", f"(?:change|broken_by)(?: {DEED}(?: \\| {DEED})*)?",
]
ASKED = [f"ask (?:@{NUMBER} )?", f"(?:walk|shut) (?:@{NUMBER} )?(?:_|{NODE}) (?:_|{NODE}) ", "(?:keep|forbid) [a-z]{1,8} "]


def plain_is_command(text):
    """Whether a text is a command, by its form; the question at its end is left to `read_question`."""
    if any(re.fullmatch(form, text, re.ASCII) for form in FORMS):
        return True
    for form in ASKED:
        found = re.match(form, text, re.ASCII)
        if found:
            try:
                return question_text(read_question(text[found.end():])) == text[found.end():]
            except Exception:
                return False
    return False


def right_call(rng):
    """A call, or a cut, with right things in it."""
    graph = small_graph(rng)
    number = rng.choice([0, 1, 2, 10, 10 ** 39, 10 ** 40 - 1, rng.randrange(10 ** 6)])
    call = random_call(rng, ((0, (graph,)), None, (), (), (), (), (), (), (0, 0)), 0)
    if rng.random() < 0.1:
        return ("cut", (rng.randrange(3), number, rng.choice([0, 7])))
    if call[0] in ("leave", "heard", "unwatch", "graph") or (call[0] in ("ask", "walk", "shut") and rng.random() < 0.5):
        return call[:-1] + (number,)
    return call


def plain_text(call):
    """The text of a call, put together by its word."""
    word, things = call[0], list(call[1:])
    told = [word]
    if word in ("graph", "ask", "walk", "shut"):
        number = things.pop()
        told += [] if number is None else ["@" + str(number)]
    if word in ("walk", "shut"):
        one, question, other = things.pop()
        told += [one or "_", other or "_"]
        things = [question]
    if word in ("change", "broken_by"):
        rows = []
        for deed in things.pop():
            rows.append(" ".join([deed[0]] + [" ".join(part) if isinstance(part, tuple) else str(part) for part in deed[1:]]))
        told += [" | ".join(rows)] if rows else []
    if word == "cut":
        told += map(str, things.pop())
    return " ".join(told + [question_text(thing) if isinstance(thing, tuple) else str(thing) for thing in things])


class TextTest(Case):
    def no_command(self, call, *args):
        with self.assertRaises(InvalidCommand) as held:
            call(*args)
        self.assertEqual((type(held.exception), vars(held.exception)), (InvalidCommand, {}))

    def test_there_and_back(self):
        rng = random.Random(431)
        words, texts = set(), {}
        for _ in range(1200):
            call = right_call(rng)
            text = call_text(call)
            words.add(call[0])
            self.same(text, plain_text(call))
            self.assertTrue(plain_is_command(text), text)
            self.same(read_call(text), call)
            self.same(texts.setdefault(text, call), call)
        self.assertEqual(words, set(SIZES) | {"cut"})

    def test_with_signs_changed(self):
        rng = random.Random(432)
        read = 0
        for _ in range(1500):
            text = call_text(right_call(rng))
            for _ in range(4):
                at = rng.randint(0, len(text))
                sign = rng.choice("ab01_@| +-.*[]{}<>,nodelinecut\nA")
                bent = rng.choice([text[:at] + sign + text[at:], text[:at] + text[at + 1:], text[:at] + sign + text[at + 1:], text[:at]])
                read += self.look_at(bent)
        self.assertGreater(read, 200)

    def look_at(self, text):
        if plain_is_command(text):
            self.same(call_text(read_call(text)), text)
            return True
        self.no_command(read_call, text)
        return False

    def test_examples(self):
        self.same(read_call("change line a bus b 3 | node c"), ("change", (("line", AXB, 3), ("node", "c"))))
        self.same(call_text(("walk", ("a", ("star", ("any", 1)), None), 2)), "walk @2 a _ *_+")
        told = {
            "graph": ("graph", None), "graph @0": ("graph", 0), "graph @12": ("graph", 12), "change": ("change", ()), "broken_by": ("broken_by", ()),
            "broken_by drop a": ("broken_by", (("drop", "a"),)), "change cut a bus b | line a bus b 1000000": ("change", (("cut", AXB), ("line", AXB, 10 ** 6))),
            "ask bus+": ("ask", BUS, None), "ask @3 [bus+ .]": ("ask", ("row", (BUS, ("empty",))), 3), "shut _ _ {}": ("shut", (None, ("either", ()), None), None),
            "walk a b bus+": ("walk", ("a", BUS, "b"), None), "keep two bus+": ("keep", "two", BUS), "forbid abcdefgh .": ("forbid", "abcdefgh", ("empty",)),
            "kept kept": ("kept", "kept"), "leave 0": ("leave", 0), "heard 10": ("heard", 10), "cut 0 0 3": ("cut", (0, 0, 3)), "undo": ("undo",),
            "unwatch " + "9" * 40: ("unwatch", 10 ** 40 - 1), "graph @1" + "0" * 39: ("graph", 10 ** 39), "cut 0 1 " + "9" * 40: ("cut", (0, 1, 10 ** 40 - 1)),
        }
        for text, call in told.items():
            self.same((read_call(value=text), call_text(call=call)), (call, text))

    def test_no_commands(self):
        for text in ("", " ", "Undo", "undo ", " undo", "undo 1", "costs 1", "disk", "choices", "kept_walk one a b", "step", "graph @", "graph 1", "graph @01", "graph  @1",
                     "graph @-1", "graph @1 ", "graph _", "graph @" + "1" * 41, "leave", "leave ", "leave 01", "leave -1", "leave @1", "leave 1 2", "leave " + "1" * 41,
                     "leave \u00b2", "leave 1.0", "leave one", "heard one", "ask", "ask ", "ask @1", "ask @1 ", "ask @ bus+", "ask bus", "ask bus+ ", "ask  bus+", "ask @1  bus+",
                     "ask None bus+", "walk a bus+", "walk a b", "walk a b ", "walk A b bus+", "walk a None bus+", "walk @1 a b bus", "walk a b @1 bus+", "walk abcde b bus+",
                     "keep", "keep one", "keep one ", "keep One bus+", "keep abcdefghi bus+", "keep one bus+ bus+", "keep bus+", "keep one1 bus+", "kept", "kept ", "kept one two",
                     "kept on_e", "names 1", "rules _", "change ", "change node", "change node A", "change node a ", "change node a |", "change node a | ", "change | node a",
                     "change node a|node b", "change node a | | node b", "change node a || node b", "change node a |  node b", "change node a  | node b", "change  node a",
                     "change line a bus b", "change line a bus b 01", "change line a bus b 1000001", "change line a bus b -1", "change cut a bus b 1", "change node a\nnode b",
                     "change node a\n", "change node a | undo", "cut", "cut 0", "cut 0 0", "cut 0 0 0 0", "cut 0 0 00", "cut 0 0  0", "cut 0 0 -1", "cut 0 0 x", "cut (0, 0, 0)",
                     "cut 0 0 " + "1" * 41, "sync\n", "draw.", "settle;", "sure?", "look look", "let_go", "let go one", "letgo one", "allow one ", "watch 1", "unwatch one"):
            self.assertFalse(plain_is_command(text), text)
            self.no_command(read_call, text)
            self.no_command(Desk().say, text)
            self.no_command(run_lines, ("undo", text))
        for value in odd_values() + [b"undo", ["undo"], ("undo",), ("change", ())]:
            self.no_command(read_call, value)
            self.no_command(Desk().say, value)
            self.no_command(run_lines, [value])
            if value not in ((), []):
                self.no_command(run_lines, value if value not in (("undo",), ["undo"]) else "undo")

    def test_long_ones_in_good_time(self):
        started = time.time()
        batch = tuple(("line", ("abcd", "wxyz", "n" + str(at).zfill(3)), 10 ** 6 - at) for at in range(60))
        text = call_text(("change", batch))
        self.assertTrue(1700 < len(text) <= 2000 and all(map(is_deed, batch)))
        self.assertEqual(read_call(text), ("change", batch))
        for signs in ("*" * 296 + "ab+", "[" * 150 + "]" * 150, "[" * 300, "ab+" * 100, "{" * 299 + "}"):
            try:
                read_call("ask " + signs)
            except InvalidCommand:
                pass
            self.no_command(read_call, "ask " + signs[:-1])
        self.no_command(read_call, "a" * 2000)
        self.no_command(read_call, "change " + " | " * 600)
        self.assertLess(time.time() - started, 2)


class DeskTest(Case):
    def test_beside_a_plain_store_and_told_again(self):
        rng = random.Random(433)
        opened = 0
        for _ in range(60):
            desk, store, lines, outcomes = Desk(), Store(), [], []
            for _ in range(rng.randint(0, 40)):
                if rng.random() < 0.08:
                    call = ("cut", tuple(rng.choice([0, many - 1, many if rng.random() < 0.1 else 0]) for many in store.choices()))
                else:
                    call = random_call(rng, meaning(store), 0)
                lines.append(call_text(call))
                outcome = desk.say(lines[-1])
                wanted = outcome_of(store, call)
                if call[0] == "cut" and wanted[0] == "told":
                    store, opened = Store(wanted[1]), opened + 1
                    wanted = ("told", store.now)
                outcomes.append(wanted)
                self.same(outcome, wanted)
                self.same(meaning(desk.store), meaning(store))
                if rng.random() < 0.1:
                    with self.assertRaises(InvalidCommand):
                        desk.say(rng.choice([lines[-1] + " ", "", None, "costs 1"]))
            self.same(desk.said(), tuple(lines))
            self.same(run_lines(rng.choice([list, tuple])(lines)), (tuple(outcomes), meaning(store)))
            self.same(run_lines(lines=lines), run([read_call(line) for line in lines]))
            again = Desk()
            self.same([again.say(line) for line in desk.said()], outcomes)
            self.same(meaning(again.store), meaning(store))
        self.assertGreater(opened, 20)

    def test_with_a_start(self):
        start = (put_image(7, (("a", 0),)), (), ())
        desk, other = Desk(start), Desk(start=start)
        self.same(desk.say("graph"), ("told", (("a",), ())))
        for line in ("change node b", "sync", "change node c", "keep", "cut 0 0 0", "undo", "leave 3"):
            if line == "keep":
                self.assertRaises(InvalidCommand, desk.say, line)
            else:
                desk.say(line)
        self.same(desk.said(), ("graph", "change node b", "sync", "change node c", "cut 0 0 0", "undo", "leave 3"))
        outcomes = [other.say(line) for line in desk.said()]
        self.same(outcomes[1:], [("told", 8), ("told", None), ("told", 9), ("told", 8), ("told", False), ("NoName", 3)])
        self.same(meaning(desk.store), meaning(other.store))

    def test_a_new_desk(self):
        desk = Desk()
        self.assertIs(type(desk.store), Store)
        self.same((desk.said(), meaning(desk.store), run_lines(())), ((), NEW, ((), NEW)))
        self.assertEqual([name for name in vars(desk) if not name.startswith("_")], ["store"])
        for value in odd_values() + [((), ()), [(), (), ()]]:
            self.told(InvalidOctets, -1, Desk, value)
        self.told(Refused, "graph", Desk, (put_image(3, (("a", 1),)), (), ()))
        self.same((desk.say("change line a bus b 3"), desk.say(line="ask *bus+")), (("told", 1), ("told", (("a", "a"), ("a", "b"), ("b", "b")))))
        self.same(desk.why(("b", BUS, None))[0], "shut")

    def test_cuts(self):
        desk = Desk()
        self.same(desk.say("cut 0 0 1"), ("InvalidSize", "cut"))
        store = desk.store
        self.same((desk.say("change node a"), desk.say("look"), desk.say("cut 0 0 0"), desk.say("look"), desk.say("graph @1")),
                  (("told", 1), ("told", 1), ("told", 0), ("told", 1), ("told", ((), ()))))
        self.assertIsNot(desk.store, store)
        self.same((store.graph(), len(desk.said())), ((("a",), ()), 6))


class SheetsTest(Case):
    def test_each_holds(self):
        rng = random.Random(434)
        seen = {"walk": 0, "shut": 0}
        for _ in range(60):
            desk, graph = Desk(), small_graph(rng)
            desk.store.change([("node", node) for node in graph[0]] + [("line", line, price) for line, price in graph[1]])
            ahead = desk.store.graph()
            desk.say("look")
            desk.say("change drop a")
            for number, graph in ((None, desk.store.graph()), (1, ahead)):
                ask = random_ask(rng, graph)
                told = desk.why(ask, number)
                self.assertTrue(sheet_holds(*told))
                walk = desk.store.walk(ask, number)
                self.same(told, ("shut", (graph, ask), desk.store.shut(ask, number)) if walk is None else ("walk", (graph, ask), walk))
                question = small_question(rng, 4)
                rows = desk.shown(question, number)
                self.same([row[1][1] for row in rows], [(one, question, other) for one in graph[0] for other in graph[0]])
                self.same([row[1][1][::2] for row in rows if row[0] == "walk"], list(desk.store.ask(question, number)))
                for row in rows:
                    self.assertTrue(sheet_holds(*row))
                    self.same(row, desk.why(row[1][1], number))
                    seen[row[0]] += 1
        self.assertGreater(min(seen.values()), 50)

    def test_edges_and_errors(self):
        desk = Desk()
        self.same((desk.shown(question=BUS), desk.why(ask=(None, BUS, None))), ((), ("shut", (((), ()), (None, BUS, None)), ())))
        desk.say("change line a bus b 3")
        self.same(desk.why(("a", BUS, None)), ("walk", (desk.store.graph(), ("a", BUS, None)), ("a", ((AXB, 1),))))
        said = desk.said()
        for value in odd_values():
            if value is not None:
                self.told_name(value, desk.why, (None, BUS, None), value)
                self.told_name(value, desk.shown, BUS, value)
                self.told_name(value, desk.shown, value, value)
            self.told(InvalidQuestion, 0, desk.shown, value)
            self.told(InvalidQuestion, 0, desk.why, ("a", value, value))
            try:
                need_ask(value)
            except (InvalidAsk, InvalidQuestion) as wrong:
                self.told(type(wrong), wrong.at, desk.why, value)
        self.told_name(1, desk.why, None, 1)
        self.told_name(7, desk.shown, question=None, number=7)
        self.told(InvalidQuestion, 0, Desk().shown, None)
        self.told(InvalidAsk, 2, desk.why, ("a", BUS, "A"), None)
        self.same(desk.said(), said)

    def told_name(self, name, call, *args, **more):
        with self.assertRaises(NoName) as held:
            call(*args, **more)
        self.assertIs(held.exception.name, name)

    def test_the_greatest_in_good_time(self):
        started = time.time()
        graph = greatest_graph()
        desk = Desk()
        desk.say(call_text(("change", tuple(("line", line, price) for line, price in graph[1]))))
        self.same(desk.store.graph(), graph)
        question = ("row", (("star", ("any", 1)), A) + (("any", 1),) * 4)
        rows = desk.shown(question)
        self.same(len(rows), 144)
        self.assertTrue(all(sheet_holds(*row) for row in rows))
        self.assertLess(time.time() - started, 6)
