import random
import time

from spelledways.errors import InvalidCommand, InvalidSize, NoName, StoreError
from spelledways.graphs import EMPTY, all_done
from spelledways.running import behind_cut, meaning, run, step
from spelledways.search import answers
from spelledways.store import Store
from spelledways.watchers import effect_of
from tests.common import Case, nested, odd_values
from tests.test_kept import random_batch
from tests.test_log import all_told
from tests.test_places import random_ask, small_question
from tests.test_search import greatest_graph

BUS = ("one", "bus", 1)
AXB = ("a", "bus", "b")
NAMES = ["one", "two", "three"]
SIZES = {"graph": 1, "broken_by": 1, "change": 1, "undo": 0, "redo": 0, "look": 0, "leave": 1, "ask": 2, "walk": 2, "shut": 2, "keep": 2, "kept": 1,
         "let_go": 1, "names": 0, "forbid": 2, "allow": 1, "rules": 0, "watch": 1, "heard": 1, "unwatch": 1, "sync": 0, "draw": 0, "settle": 0, "sure": 0}
NEW = ((0, (EMPTY,)), None, (), (), (), (), (), (), (0, 0))


def outcome_of(store, call):
    """The call done on the store by the name of its method."""
    try:
        return "told", getattr(store, call[0])(*call[1:])
    except (StoreError, NoName) as held:
        kept = list(vars(held).values())
        assert len(kept) == 1
        return type(held).__name__, kept[0]


def random_call(rng, state, odd=0.06):
    """Some call; mostly of things that are there, now and then of any values."""
    graph = state[0][1][-1]
    word = rng.choice(["change"] * 8 + ["undo"] * 4 + ["redo"] * 3 + ["look", "keep", "forbid", "watch", "heard", "unwatch", "draw", "settle", "sync"] + list(SIZES))
    readers, watchers = [row[0] for row in state[4]], [row[0] for row in state[7]]
    question = small_question(rng, 4)
    told = {
        "batch": lambda: random_batch(rng, graph, 3), "question": lambda: question, "ask": lambda: random_ask(rng, graph, question),
        "name": lambda: rng.choice(NAMES), "reader": lambda: rng.choice([None, None, 1] + readers * 2),
        "number": lambda: rng.choice([1] + (watchers if word != "leave" else readers) * 3),
    }
    shapes = {"graph": ["reader"], "broken_by": ["batch"], "change": ["batch"], "leave": ["number"], "ask": ["question", "reader"], "walk": ["ask", "reader"],
              "shut": ["ask", "reader"], "keep": ["name", "question"], "kept": ["name"], "let_go": ["name"], "forbid": ["name", "question"], "allow": ["name"],
              "watch": ["name"], "heard": ["number"], "unwatch": ["number"]}
    found = [told[shape]() for shape in shapes.get(word, [])]
    if found and rng.random() < odd:
        found[rng.randrange(len(found))] = rng.choice(odd_values())
    return (word,) + tuple(found)


class Known:
    """What a store means, kept beside it in plain lists."""

    def __init__(self, now, graph):
        self.now, self.graphs = now, {now: graph}
        self.drawn, self.standing, self.undone = None, [], []
        self.readers, self.rules, self.kept, self.watchers, self.lasts = {}, {}, {}, {}, [0, 0]

    def heard_of(self, call, outcome, store):
        """What a call told, and the graph of now, as they change what is known."""
        word, value = call[0], outcome[1]
        if outcome[0] != "told":
            return
        ahead = self.graphs[self.now]
        if word in ("change", "undo", "redo") and store.now > self.now:
            self.now += 1
            self.graphs[self.now] = store.graph()
            if word == "change":
                self.standing, self.undone = self.standing + [ahead], []
            elif word == "undo":
                self.undone.append(ahead)
                assert self.standing.pop() == store.graph()
            else:
                self.standing.append(ahead)
                assert self.undone.pop() == store.graph()
            for row in self.watchers.values():
                effect = effect_of(answers(ahead, self.kept[row[0]]), answers(store.graph(), self.kept[row[0]]))
                row[1].extend([(self.now,) + effect] if effect != ((), ()) else [])
        elif word == "look":
            self.readers[value], self.lasts[0] = ahead, value
        elif word == "watch":
            self.watchers[value], self.lasts[1] = (call[1], []), value
        elif word == "heard":
            self.watchers[call[1]][1].clear()
        elif word in ("keep", "forbid"):
            (self.kept if word == "keep" else self.rules)[call[1]] = call[2]
        elif word in ("leave", "allow", "let_go", "unwatch"):
            {"leave": self.readers, "allow": self.rules, "let_go": self.kept, "unwatch": self.watchers}[word].pop(call[1])
        elif word == "draw":
            self.drawn = self.now
        elif word == "settle":
            self.drawn = None

    def told(self, sure):
        return ((sure, tuple(self.graphs[stamp] for stamp in range(sure, self.now + 1))), self.drawn, tuple(self.standing), tuple(self.undone),
                tuple(sorted(self.readers.items())), tuple(sorted(self.rules.items())), tuple(sorted(self.kept.items())),
                tuple((number, row[0], tuple(row[1])) for number, row in sorted(self.watchers.items())), tuple(self.lasts))


class StepTest(Case):
    def test_call_by_call_beside_the_store(self):
        rng = random.Random(421)
        words = {}
        for _ in range(150):
            store, known = Store(), Known(0, EMPTY)
            state = meaning(store)
            for _ in range(40):
                call = random_call(rng, state, 0.12)
                behind, outcome = step(state, call)
                wanted = outcome_of(store, call)
                self.same(outcome, wanted)
                known.heard_of(call, wanted, store)
                state = meaning(store)
                self.same(behind, state)
                self.same(state, known.told(store.sure()))
                words.setdefault((call[0], outcome[0]), []).append(call)
                if rng.random() < 0.03:
                    store = Store(store.cut(tuple(rng.choice([0, many - 1, rng.randrange(many)]) for many in store.choices())))
                    known, state = Known(store.now, store.graph()), meaning(store)
        self.assertEqual({word for word, _ in words}, set(SIZES))
        self.assertTrue({("change", "Refused"), ("forbid", "Refused"), ("heard", "NoName"), ("unwatch", "told"), ("leave", "NoName"),
                         ("keep", "InvalidSize"), ("change", "InvalidDeed"), ("ask", "InvalidQuestion"), ("walk", "InvalidAsk")} <= set(words), sorted(words))

    def test_cuts_anywhere(self):
        rng = random.Random(422)
        for _ in range(25):
            store = Store()
            for _ in range(rng.randint(0, 9)):
                outcome_of(store, random_call(rng, meaning(store), 0))
                if rng.random() < 0.3:
                    outcome_of(store, ("change", random_batch(rng, store.graph())))
            state = meaning(store)
            told = all_told(store)
            # Each cut leaves what is told of one stamp, and each of these is left by some cut.
            self.same(sorted({row[0] for row in told}), list(range(store.sure(), store.now + 1)))
            for (stamp, _, _), numbers in told.items():
                again = Store(store.cut(numbers))
                self.same(meaning(again), behind_cut(state, stamp))
                self.same(meaning(again), ((stamp, (again.graph(),)), None, (), (), (), (), (), (), (0, 0)))
            for value in odd_values() + [store.sure() - 1, store.now + 1, "0", 0.0]:
                if value != -1 or store.sure() > 0:
                    self.told(InvalidSize, "stamp", behind_cut, state, value)

    def test_what_a_new_store_means(self):
        self.same((meaning(store=Store()), run(())), (NEW, ((), NEW)))
        self.same((meaning(Store(((), (), ()))), run(calls=[])), (NEW, ((), NEW)))
        self.same(step(state=NEW, call=("redo",)), (NEW, ("told", False)))
        self.same(behind_cut(state=NEW, stamp=0), NEW)

    def test_examples(self):
        store = Store()
        question = ("row", (BUS, ("one", "bus", -1)))
        store.change((("line", AXB, 2), ("line", ("c", "bus", "b"), 3)))
        store.keep("two", question)
        store.watch("two")
        store.look()
        store.undo()
        store.forbid("back", question)
        self.same(step(meaning(store), ("redo",))[1], ("Refused", "back"))
        self.same(step(meaning(store), ("redo",))[0], meaning(store))
        self.same((meaning(store)[0][0], behind_cut(meaning(store), 1)), (0, meaning(Store(store.cut((0, 0, store.choices()[2] - 2))))))
        self.same(run((("change", (("node", "a"),)), ("cut", (0, 0, 3)), ("graph", None)))[0], (("told", 1), ("told", 0), ("told", EMPTY)))
        words = ((2, (), (("a", "a"), ("a", "c"), ("c", "a"), ("c", "c"))),)
        self.same(meaning(store)[7:], (((1, "two", words),), (1, 1)))
        self.same(meaning(store)[2:4], ((), (store.graph(1),)))

    def test_an_image_drawn_and_not_settled(self):
        store = Store()
        store.change((("node", "a"),))
        store.draw()
        self.same((meaning(store)[0], meaning(store)[1]), ((0, (EMPTY, (("a",), ()))), 1))
        store.change((("node", "b"),))
        behind, outcome = step(meaning(store), ("settle",))
        self.same((behind[0], behind[1], outcome), ((1, ((("a",), ()), (("a", "b"), ()))), None, ("told", None)))
        store.settle()
        self.same(meaning(store), behind)
        store.draw()
        store.change((("node", "c"),))
        store.draw()
        store.sync()
        self.same((meaning(store)[0], meaning(store)[1]), ((3, ((("a", "b", "c"), ()),)), 3))
        store.settle()
        self.same((meaning(store)[0][0], meaning(store)[1]), (3, None))

    def test_wrong_calls(self):
        state = meaning(Store())
        wrong = [("costs", 1), ("kept_walk", "one", "a", "b"), ("choices",), ("cut", (0, 0, 0)), ("disk",), ("Store",), ("__init__",), ("memory",), ("start",),
                 ("now",), ("journal",), ("graph",), ("graph", None, None), ("change",), ("change", (), ()), ("undo", None), ("look", 1), ("ask", BUS), ("walk", BUS),
                 ("ask", BUS, None, None), ("keep", "one"), ("sure", ()), ["undo"], "undo", ("Undo",), ("undo ",), (b"undo",), ((),), (None,), (1,), (("undo",),), (), ([],), ([1], 2), ({},), (["graph"], None)]
        for call in wrong + odd_values():
            self.no_command(step, state, call)
            if not (isinstance(call, tuple) and call and call[0] == "cut"):
                self.no_command(run, (("undo",), call))
        for calls in odd_values() + [("undo",), ["undo"], "undo", (("undo",), None), {("undo",): 1}, (("cut",),), (("cut", 1, 2),), [["undo"]], (["cut", (0, 0, 0)],)]:
            if calls not in ((), []):
                self.no_command(run, calls)

    def no_command(self, call, *args):
        with self.assertRaises(InvalidCommand) as held:
            call(*args)
        self.assertIs(type(held.exception), InvalidCommand)
        self.assertEqual(vars(held.exception), {})

    def test_any_values_in_calls(self):
        rng = random.Random(423)
        for word, many in SIZES.items():
            store = Store()
            store.change((("line", AXB, 1),))
            store.keep("one", BUS)
            store.watch("one")
            store.look()
            for value in odd_values() + [1, "one", None, BUS, ("a", BUS, None), [("node", "c")], nested(30, list)] if many else [None]:
                for other in rng.sample(odd_values(), 3) + [1, None, BUS]:
                    call = (word,) + ((value, other)[:many] if rng.random() < 0.5 else (other, value)[:many])
                    self.look_at_call(store, call)

    def look_at_call(self, store, call):
        behind, outcome = step(meaning(store), call)
        wanted = outcome_of(store, call)
        self.same((behind, outcome[0]), (meaning(store), wanted[0]))
        if outcome[0] == "NoName":
            self.assertIs(outcome[1], wanted[1])
        else:
            self.same(outcome[1], wanted[1])

    def test_going_back_to_what_a_rule_refuses(self):
        for row in ((("change", (("line", AXB, 1),)), ("change", (("cut", AXB),)), ("forbid", "bus", BUS), ("undo",)),
                    (("change", (("line", AXB, 1),)), ("undo",), ("forbid", "bus", BUS), ("forbid", "a", ("any", 1)), ("redo",), ("allow", "a"), ("redo",))):
            store = Store()
            for call in row:
                self.look_at_call(store, call)
            self.same(outcome_of(store, row[-1]), ("Refused", "bus"))

    def test_the_next_of_two_is_done_again(self):
        store = Store()
        for call in (("change", (("line", AXB, 1),)), ("change", (("cut", AXB), ("node", "c"))), ("undo",), ("undo",), ("forbid", "bus", BUS), ("redo",)):
            self.look_at_call(store, call)
        self.same(outcome_of(store, ("redo",)), ("Refused", "bus"))
        for call in (("allow", "bus"), ("redo",), ("forbid", "free", ("star", ("one", "free", 1))), ("redo",), ("redo",)):
            self.look_at_call(store, call)
        self.same(store.graph(), (("a", "b", "c"), ()))

    def test_what_is_watched_is_not_let_go(self):
        store = Store()
        told = []
        for call in (("keep", "one", BUS), ("watch", "one"), ("watch", "one"), ("unwatch", 1), ("let_go", "one"), ("unwatch", 2), ("let_go", "one")):
            told.append(step(meaning(store), call)[1])
            self.look_at_call(store, call)
        self.same(told[1:], [("told", 1), ("told", 2), ("told", None), ("Refused", "watched"), ("told", None), ("told", None)])
        self.same((store.names(), meaning(store)[8]), ((), (0, 2)))

    def test_what_is_handed_in_is_not_changed(self):
        batch = [("node", "a"), ("line", AXB, 3)]
        calls = [("change", batch), ["undo"]][:1] + [("undo",)]
        told = run(calls)
        self.same((batch, calls), ([("node", "a"), ("line", AXB, 3)], [("change", batch), ("undo",)]))
        batch.append(("node", "zz"))
        self.same(told[1][3], ((("a", "b"), ((AXB, 3),)),))
        state = told[1]
        step(state, ("redo",))
        self.same(state, told[1])


class RunTest(Case):
    def test_runs_beside_steps_and_cuts(self):
        rng = random.Random(424)
        seen = [0, 0]
        for _ in range(60):
            calls, outcomes, store = [], [], Store()
            for _ in range(rng.randint(0, 40)):
                if rng.random() < 0.12:
                    numbers = rng.choice([[0, 0, many] if rng.random() < 0.1 else tuple(rng.choice([0, one - 1, rng.randrange(one)]) for one in store.choices())
                                          for many in [store.choices()[2]]])
                    calls.append(("cut", numbers))
                    wanted = outcome_of(store, calls[-1])
                    seen[wanted[0] == "told"] += 1
                    if wanted[0] == "told":
                        state = meaning(store)
                        store = Store(wanted[1])
                        wanted = ("told", store.now)
                        self.same(meaning(store), behind_cut(state, store.now))
                    outcomes.append(wanted)
                else:
                    calls.append(random_call(rng, meaning(store), 0))
                    behind, outcome = step(meaning(store), calls[-1])
                    self.same(outcome_of(store, calls[-1]), outcome)
                    self.same(meaning(store), behind)
                    outcomes.append(outcome)
            self.same(run(rng.choice([list, tuple])(calls)), (tuple(outcomes), meaning(store)))
        self.assertGreater(min(seen), 3)

    def test_cuts_at_each_step(self):
        calls = (("change", (("line", AXB, 1),)), ("draw",), ("change", (("node", "c"),)), ("settle",), ("change", (("cut", AXB),)), ("draw",))
        store = Store()
        for many in range(len(calls) + 1):
            for place in range(3):
                for number in range(store.choices()[place]):
                    numbers = [0, 0, 0]
                    numbers[place] = number
                    outcomes, state = run(calls[:many] + (("cut", numbers),))
                    stamp = outcomes[-1][1]
                    self.same(state, behind_cut(meaning(store), stamp))
            if many < len(calls):
                outcome_of(store, calls[many])

    def test_wrong_cuts_change_nothing(self):
        for value in odd_values() + [(0, 0), (0, 0, 99), (0, 0, True), "000"]:
            outcomes, state = run((("change", (("node", "a"),)), ("cut", value), ("graph", None)))
            self.same(outcomes, (("told", 1), ("InvalidSize", "cut"), ("told", (("a",), ()))))
            self.same(state[2], (EMPTY,))
        self.same(run([("cut", [0, 0, 0])]), ((("told", 0),), NEW))

    def test_the_greatest_in_good_time(self):
        started = time.time()
        rng = random.Random(425)
        graph = greatest_graph(("x", "bus"))
        question = ("row", (("star", ("any", 1)), BUS) + (("any", 1),) * 5)
        calls = [("change", tuple(("line", line, price) for line, price in graph[1]))]
        for at, name in enumerate("abcdef"):
            calls += [("keep", name, question[:1] + (question[1][at:],)), ("watch", name), ("watch", name), ("look",)]
            calls += [("forbid", name, ("row", (("star", ("any", 1)), ("one", "far", 1)) + (("any", 1),) * at))]
        for at in range(9):
            line = rng.choice(graph[1])[0]
            calls += [("change", (("cut", line),)), ("undo",), ("change", (("line", line, at + 100),)), ("change", (("line", ("n1", "far", "n2"), 1),))]
        outcomes, state = run(calls)
        plain = meaning(Store())
        for call, outcome in zip(calls, outcomes):
            plain, told = step(plain, call)
            self.assertEqual(told, outcome)
        self.assertEqual(plain, state)
        self.assertEqual(all_done(EMPTY, calls[0][1]), graph)
        self.assertLess(time.time() - started, 15)
