import random
import time

from spelledways.errors import (InvalidAsk, InvalidDeed, InvalidOctets, InvalidQuestion, InvalidSize, NoName, Refused)
from spelledways.freeing import Keeper
from spelledways.graphs import EMPTY, all_done
from spelledways.lines import map_of_graph
from spelledways.log import Journal
from spelledways.places import answers_ask
from spelledways.records import put_image, put_record
from spelledways.recovery import mend, recover
from spelledways.search import answers, walk_for
from spelledways.shut import shut_set
from spelledways.store import Store
from spelledways.watchers import effect_of, put_effect
from tests.common import Case, odd_values
from tests.test_freeing import gone_pairs, plain_kept
from tests.test_graphs import random_deed
from tests.test_kept import random_batch
from tests.test_log import all_told
from tests.test_places import random_ask, small_question
from tests.test_recovery import random_disk
from tests.test_search import greatest_graph

BUS = ("one", "bus", 1)
CHANGE = ("row", (("one", "bus", 1), ("one", "bus", -1)))
AXB, CXB = ("a", "bus", "b"), ("c", "bus", "b")
NAMES = ["one", "two", "three"]


class Plain:
    """A store as plain lists of graphs: nothing is freed, all is asked anew."""

    def __init__(self, now, graph):
        self.now = now
        self.graphs = {now: graph}
        self.rows = {key: [(now, value)] for key, value in map_of_graph(graph)}
        self.standing, self.undone = [], []
        self.readers, self.kept, self.rules, self.watchers = {}, {}, {}, {}
        self.last_reader = self.last_watcher = 0

    @property
    def graph(self):
        return self.graphs[self.now]

    def broken(self, graph):
        walks = [(name, walk_for(graph, (None, self.rules[name], None))) for name in sorted(self.rules)]
        return tuple(pair for pair in walks if pair[1] is not None)

    def commit(self, graph):
        ahead, maps = self.graph, (dict(map_of_graph(self.graph)), dict(map_of_graph(graph)))
        self.now += 1
        self.graphs[self.now] = graph
        for key in set(maps[0]) | set(maps[1]):
            if maps[0].get(key) != maps[1].get(key):
                self.rows.setdefault(key, []).append((self.now, maps[1].get(key)))
        for row in self.watchers.values():
            question = self.kept[row[0]]
            effect = effect_of(answers(ahead, question), answers(graph, question))
            if effect != ((), ()):
                row[1].append((self.now,) + effect)

    def left(self, stamps):
        rows = {key: plain_kept(tuple(self.rows[key]), tuple(sorted(set(stamps)))) for key in self.rows}
        return {key: rows[key] for key in rows if rows[key]}


class StoreTest(Case):
    def look_at(self, store, plain):
        self.same((store.now, store.graph(), store.graph(None)), (plain.now, plain.graph, plain.graph))
        self.same(recover(store.disk()), (plain.now, map_of_graph(plain.graph), "whole"))
        for number, stamp in plain.readers.items():
            self.same(store.graph(number), plain.graphs[stamp])
        left = plain.left(plain.readers.values())
        self.same(store.keeper.versions.rows(), tuple((key, left[key]) for key in sorted(left)))
        self.same((store.names(), store.rules()), (tuple(sorted(plain.kept)), tuple(sorted(plain.rules))))
        for name, question in plain.kept.items():
            self.same(store.kept(name), answers(plain.graph, question))
        for question in plain.rules.values():
            self.assertIsNone(walk_for(plain.graph, (None, question, None)))

    def told_or_refused(self, graph, plain, call):
        """The call of what leads to a graph; True if it was not refused."""
        broken = plain.broken(graph)
        if broken:
            self.told(Refused, broken[0][0], call)
            return False
        return True

    def change(self, rng, store, plain):
        batch = random_batch(rng, plain.graph, 3)
        if rng.random() < 0.2:
            batch = batch + (("node", "d"), ("drop", "d"))
        graph = all_done(plain.graph, batch)
        self.same(store.broken_by(list(batch)), plain.broken(graph))
        if self.told_or_refused(graph, plain, lambda: store.change(batch)):
            if graph != plain.graph:
                plain.standing.append((plain.graph, graph))
                plain.undone = []
                plain.commit(graph)
            self.same(store.change(rng.choice([list, tuple])(batch)), plain.now)

    def back_or_again(self, store, plain, call, rows, others, at):
        if not rows:
            self.same(call(), False)
        elif self.told_or_refused(rows[-1][at], plain, call):
            others.append(rows.pop())
            plain.commit(others[-1][at])
            self.same(call(), True)

    def readers(self, rng, store, plain):
        if rng.random() < 0.6 or not plain.readers:
            plain.last_reader += 1
            plain.readers[plain.last_reader] = plain.now
            self.same(store.look(), plain.last_reader)
            return
        number = rng.choice(list(plain.readers))
        left = plain.left(plain.readers.values())
        others = [plain.readers[other] for other in plain.readers if other != number]
        self.same(store.costs(number), gone_pairs(left, plain.left(others)))
        if rng.random() < 0.6:
            self.assertIsNone(store.leave(number))
            plain.readers.pop(number)
            self.told(NoName, number, store.leave, number)

    def asks(self, rng, store, plain):
        number = rng.choice([None, None] + list(plain.readers))
        graph = plain.graph if number is None else plain.graphs[plain.readers[number]]
        ask = random_ask(rng, graph, small_question(rng, 5))
        walk = walk_for(graph, ask)
        self.same(store.ask(ask[1], number), answers(graph, ask[1]))
        self.same(store.walk(ask, number), walk)
        self.same(store.shut(ask, number), shut_set(graph, ask) if walk is None else None)
        for name, question in plain.kept.items():
            one, other = rng.choice(NODES), rng.choice(NODES)
            self.same(store.kept_walk(name, one, other), walk_for(plain.graph, (one, question, other)))

    def questions(self, rng, store, plain):
        name, question = rng.choice(NAMES), small_question(rng, 5)
        if name not in plain.kept:
            self.same(store.keep(name, question), answers(plain.graph, question))
            plain.kept[name] = question
            return
        self.told(Refused, "name", store.keep, name, question)
        if name in [row[0] for row in plain.watchers.values()]:
            self.told(Refused, "watched", store.let_go, name)
        elif rng.random() < 0.5:
            self.assertIsNone(store.let_go(name))
            plain.kept.pop(name)

    def made_rules(self, rng, store, plain):
        name, question = rng.choice(NAMES), small_question(rng, 4)
        if name in plain.rules:
            self.told(Refused, "name", store.forbid, name, question)
            if rng.random() < 0.7:
                self.assertIsNone(store.allow(name))
                plain.rules.pop(name)
        elif walk_for(plain.graph, (None, question, None)) is not None:
            self.told(Refused, "broken", store.forbid, name, question)
        else:
            self.assertIsNone(store.forbid(name, question))
            plain.rules[name] = question

    def watchers(self, rng, store, plain):
        choice = rng.random()
        if choice < 0.5 and plain.kept:
            name = rng.choice(sorted(plain.kept))
            plain.last_watcher += 1
            plain.watchers[plain.last_watcher] = (name, [], answers(plain.graph, plain.kept[name]))
            self.same(store.watch(name), plain.last_watcher)
        elif plain.watchers:
            number = rng.choice(list(plain.watchers))
            name, words, known = plain.watchers[number]
            self.same(store.heard(number), tuple(words))
            for word in words:
                known = put_effect(known, word[1:])
            self.same(known, store.kept(name))
            plain.watchers[number] = (name, [], known)
            self.same(store.heard(number), ())
            if choice < 0.65:
                self.assertIsNone(store.unwatch(number))
                plain.watchers.pop(number)
                self.told(NoName, number, store.heard, number)

    def disk(self, rng, store, plain):
        choice = rng.random()
        if choice < 0.4:
            self.assertIsNone(store.sync())
            self.same(store.sure(), plain.now)
        elif choice < 0.7:
            self.assertIsNone(store.draw())
        else:
            self.assertIsNone(store.settle())
        self.same((store.sure(), store.choices(), store.disk()), (store.journal.sure(), store.journal.choices(), store.journal.disk()))

    def opened_again(self, rng, store, plain):
        numbers = tuple(rng.choice([0, many - 1, rng.randrange(many)]) for many in store.choices())
        sure, disk = store.sure(), store.cut(numbers)
        again = Store(disk)
        self.assertTrue(sure <= again.now <= plain.now)
        self.same(again.graph(), plain.graphs[again.now])
        behind = Plain(again.now, plain.graphs[again.now])
        behind.graphs = {stamp: plain.graphs[stamp] for stamp in plain.graphs if stamp <= again.now}
        self.same((again.undo(), again.redo(), again.names(), again.rules()), (False, False, (), ()))
        return again, behind

    def test_rows_of_calls(self):
        rng = random.Random(291)
        for _ in range(45):
            store, plain = Store(), Plain(0, EMPTY)
            for _ in range(40):
                choice = rng.random()
                if choice < 0.3:
                    self.change(rng, store, plain)
                elif choice < 0.4:
                    self.back_or_again(store, plain, store.undo, plain.standing, plain.undone, 0)
                elif choice < 0.48:
                    self.back_or_again(store, plain, store.redo, plain.undone, plain.standing, 1)
                elif choice < 0.96:
                    call = rng.choice([self.readers, self.asks, self.questions, self.made_rules, self.watchers, self.disk])
                    call(rng, store, plain)
                else:
                    store, plain = self.opened_again(rng, store, plain)
                self.look_at(store, plain)

    def test_all_cuts(self):
        rng = random.Random(292)
        for _ in range(12):
            store, plain = Store(), Plain(0, EMPTY)
            for _ in range(rng.randint(1, 7)):
                rng.choice([self.change, self.change, self.disk])(rng, store, plain)
                if rng.random() < 0.2:
                    self.back_or_again(store, plain, store.undo, plain.standing, plain.undone, 0)
            told = all_told(store)
            self.same(sorted({row[0] for row in told}), list(range(store.sure(), store.now + 1)))
            for (stamp, _, _), numbers in told.items():
                again = Store(store.cut(numbers))
                self.same((again.now, again.graph()), (stamp, plain.graphs[stamp]))

    def test_what_is_mended_keeps_the_rules(self):
        store = Store()
        store.change((("line", AXB, 1),))
        store.forbid("far", ("one", "far", 1))
        made = store.now
        for at in range(3):
            store.change((("line", ("a", "x", "n" + str(at)), at),))
            self.told(Refused, "far", store.change, (("line", ("a", "far", "b"), at),))
        for stamp, entries, _ in all_told(store):
            if stamp >= made:
                self.assertFalse([key for key, _ in entries if "far" in key])


NODES = ["a", "b", "c", "d"]


class OpeningTest(Case):
    def test_a_new_store(self):
        store = Store()
        self.same((store.now, store.graph(), store.disk(), store.sure(), store.choices()), (0, EMPTY, ((), (), ()), 0, (1, 1, 1)))
        self.assertIs(type(store.journal), Journal)
        self.assertIs(type(store.keeper), Keeper)
        self.same((store.undo(), store.redo(), store.names(), store.rules(), store.keeper.versions.rows()), (False, False, (), (), ()))

    def test_no_disk(self):
        for value in odd_values() + [((), ()), [(), (), ()], ((256,), (), ()), ((True,), (), ()), ([], (), ())]:
            self.told(InvalidOctets, -1, Store, value)
        self.told(InvalidOctets, -1, Store, start=None)

    def test_no_graph(self):
        self.told(Refused, "graph", Store, (put_image(3, (("a", 1),)), (), ()))
        self.told(Refused, "graph", Store, (put_image(0, (("a", 0),)), (), ()))
        self.told(Refused, "graph", Store, ((), (), put_record(1, (("a_x_b", 0),))))
        for start, graph in (((put_image(0, ()), (), ()), EMPTY), ((put_image(5, (("a", 0),)), (), ()), (("a",), ())),
                             ((put_image(3, (("a", 1),)), put_image(4, ()), ()), EMPTY)):
            store = Store(start=start)
            self.assertIs(store.start, start)
            self.same(store.graph(), graph)

    def test_whatever_disk(self):
        rng = random.Random(293)
        opened = 0
        for _ in range(300):
            disk = random_disk(rng)
            stamp, entries, word = recover(disk)
            nodes = tuple(key for key, value in entries)
            if (stamp == 0 and entries) or not all(value == 0 and len(key) < 5 and "_" not in key for key, value in entries):
                self.told(Refused, "graph", Store, disk)
                continue
            store = Store(disk)
            opened += 1
            self.same((store.now, store.graph(), store.journal.word), (stamp, (nodes, ()), word))
            self.same(store.keeper.versions.rows(), tuple((key, ((stamp, 0),)) for key in nodes))
            self.same(store.disk(), mend(disk))
            self.same(store.change((("line", AXB, 3),)), stamp + 1)
        self.assertGreater(opened, 20)

    def test_opened_again(self):
        store = Store()
        store.change((("line", AXB, 2), ("line", CXB, 3)))
        store.change((("cut", AXB),))
        store.undo()
        again = Store(store.disk())
        self.same((again.now, again.graph()), (3, store.graph()))
        self.same(again.keeper.versions.rows(), tuple((key, ((3, value),)) for key, value in map_of_graph(store.graph())))
        self.same((again.undo(), again.redo(), again.look()), (False, False, 1))
        again.change((("drop", "b"),))
        self.same((again.graph(1), again.undo(), again.graph()), (store.graph(), True, store.graph()))


class CallsTest(Case):
    def test_the_example(self):
        store = Store()
        self.same(store.change((("line", AXB, 2), ("line", CXB, 3))), 1)
        pairs = (("a", "a"), ("a", "c"), ("c", "a"), ("c", "c"))
        self.same((store.ask(CHANGE), store.walk(("a", CHANGE, "c"))), (pairs, ("a", ((AXB, 1), (CXB, -1)))))
        self.same((store.keep("two", CHANGE), store.watch("two"), store.look(), store.undo(), store.heard(1)),
                  (pairs, 1, 1, True, ((2, (), pairs),)))
        self.same((store.graph(), store.shut(("a", CHANGE, None)), store.ask(CHANGE, 1)[1], store.costs(1)[0]),
                  (EMPTY, (), ("a", "c"), ("_b_bus_a", (1, 2))))
        self.same((store.forbid("back", CHANGE), store.broken_by((("line", ("d", "bus", "e"), 0),))),
                  (None, (("back", ("d", ((("d", "bus", "e"), 1), (("d", "bus", "e"), -1)))),)))
        self.told(Refused, "back", store.redo)

    def test_undo_and_redo(self):
        store = Store()
        graphs = [store.graph()]
        for at in range(3):
            store.change((("node", "n" + str(at)),))
            graphs.append(store.graph())
        self.same((store.undo(), store.graph(), store.undo(), store.graph(), store.now), (True, graphs[2], True, graphs[1], 5))
        # A change that is no commit stands in the way of nothing; one that is ends what can be done again.
        self.same((store.change((("node", "n0"),)), store.redo(), store.graph()), (5, True, graphs[2]))
        self.same((store.undo(), store.change((("node", "z"),)), store.redo()), (True, 8, False))
        self.same((store.undo(), store.graph(), store.undo(), store.graph(), store.undo()), (True, graphs[1], True, EMPTY, False))
        self.same((store.redo(), store.redo(), store.redo()), (True, True, False))
        self.same(store.graph(), all_done(EMPTY, (("node", "n0"), ("node", "z"))))

    def test_two_rules_broken_at_once(self):
        store = Store()
        store.forbid("b", BUS)
        store.forbid("a", ("any", -1))
        batch = (("line", AXB, 1),)
        self.told(Refused, "a", store.change, batch)
        self.same([name for name, _ in store.broken_by(batch)], ["a", "b"])
        self.same(store.broken_by(batch)[1][1], ("a", ((AXB, 1),)))
        self.same((store.now, store.graph()), (0, EMPTY))
        # Broken and mended in one batch.
        self.same(store.change(batch + (("cut", AXB),)), 1)
        self.same(store.change((("line", AXB, 1), ("drop", "a"), ("drop", "b"))), 2)
        store.allow("a")
        self.told(Refused, "b", store.change, batch)
        store.allow("b")
        self.same((store.change(batch), store.rules()), (3, ()))
        self.told(Refused, "broken", store.forbid, "b", BUS)
        self.told(Refused, "broken", store.forbid, "b", ("empty",))
        store.undo()
        store.forbid("b", BUS)
        ahead = (store.now, store.graph(), store.disk())
        self.told(Refused, "b", store.redo)
        self.same((store.now, store.graph(), store.disk()), ahead)
        self.same((store.allow(name="b"), store.redo(), store.graph()[1]), (None, True, ((AXB, 1),)))

    def test_an_undo_that_a_rule_refuses(self):
        store = Store()
        store.change((("line", AXB, 1),))
        store.change((("cut", AXB),))
        store.forbid(name="bus", question=BUS)
        self.told(Refused, "bus", store.undo)
        self.same((store.now, store.graph()), (2, (("a", "b"), ())))
        store.allow("bus")
        self.same((store.undo(), store.now), (True, 3))

    def test_watchers(self):
        store = Store()
        store.keep(name="one", question=BUS)
        store.keep("two", ("any", 1))
        first, second = store.watch(name="one"), store.watch("one")
        store.change((("line", AXB, 1),))
        third = store.watch("two")
        store.change((("line", AXB, 2),))
        store.undo()
        store.undo()
        store.redo()
        self.same((first, second, third), (1, 2, 3))
        pair = (("a", "b"),)
        self.same(store.heard(number=1), ((1, pair, ()), (4, (), pair), (5, pair, ())))
        self.same((store.heard(1), store.heard(3)), ((), ((4, (), pair), (5, pair, ()))))
        self.told(Refused, "watched", store.let_go, "one")
        self.assertIsNone(store.unwatch(1))
        self.told(Refused, "watched", store.let_go, "one")
        self.assertIsNone(store.unwatch(number=2))
        self.same((store.let_go(name="one"), store.names()), (None, ("two",)))
        self.told(NoName, 1, store.heard, 1)
        self.told(NoName, 2, store.unwatch, 2)
        self.same((store.keep("one", BUS), store.watch("one")), (pair, 4))
        self.same(store.kept_walk(name="one", one="a", other="b"), ("a", ((AXB, 1),)))
        self.same((store.kept_walk("one", "b", "a"), store.kept_walk("one", "q", "q")), (None, None))

    def test_readers(self):
        store = Store()
        store.change((("line", AXB, 1),))
        self.same((store.look(), store.look()), (1, 2))
        store.change((("line", AXB, 2),))
        self.same((store.costs(number=1), store.costs(2)), ((), ()))
        store.leave(number=1)
        self.same(store.costs(2), (("_b_bus_a", (1, 1)), ("a_bus_b", (1, 1))))
        self.same((store.graph(number=2)[1], store.graph()[1]), (((AXB, 1),), ((AXB, 2),)))
        self.same((store.look(), store.leave(2), store.keeper.versions.how_many()), (3, None, 4))
        for call in (store.leave, store.costs, store.graph):
            for number in (1, 2, 4, 0):
                self.told(NoName, number, call, number)

    def test_wrong_arguments_in_their_order(self):
        store = Store()
        store.change((("line", AXB, 1),))
        store.keep("one", BUS)
        store.watch("one")
        store.look()
        store.forbid("far", ("one", "far", 1))
        ahead = (store.now, store.graph(), store.disk(), store.names(), store.rules(), store.keeper.versions.rows())
        for value in odd_values() + [True, 1.5, "1"]:
            for call in (store.leave, store.costs, store.heard, store.unwatch, store.let_go, store.kept, store.allow, store.watch,
                         lambda some: store.kept_walk(some, 1, 1), *self.with_reader(store, value)):
                with self.assertRaises(NoName) as held:
                    call(value)
                self.assertIs(held.exception.name, value)
            self.told(InvalidQuestion, 0, store.ask, value)
            self.told(InvalidQuestion, 0, store.keep, "one", value)
            self.told(InvalidQuestion, 0, store.forbid, "far", value)
            self.told(InvalidSize, "name", store.keep, value, value)
            self.told(InvalidSize, "name", store.forbid, value, None)
            self.told(InvalidAsk, 2, store.walk, (None, BUS, 1))
            self.told(InvalidAsk, -1, store.shut, [value])
            if value not in ((), []):
                at = 0 if isinstance(value, (tuple, list)) else -1
                self.told(InvalidDeed, at, store.change, value)
                self.told(InvalidDeed, at, store.broken_by, value)
            self.told(InvalidSize, "cut", store.cut, value)
        self.told(NoName, 7, store.ask, None, 7)
        self.told(NoName, 7, store.walk, ask=None, number=7)
        self.told(NoName, 7, store.shut, None, 7)
        self.told(Refused, "name", store.keep, "one", BUS)
        self.told(Refused, "name", store.forbid, "far", BUS)
        self.told(Refused, "broken", store.forbid, "bus", BUS)
        self.told(InvalidAsk, 0, store.kept_walk, "one", "A", "b")
        for name in ("A", "abcdefghi", "a1", ""):
            self.told(InvalidSize, "name", store.keep, name, BUS)
        self.told(InvalidDeed, 1, store.change, (("drop", "a"), ("node", "A")))
        self.same((store.now, store.graph(), store.disk(), store.names(), store.rules(), store.keeper.versions.rows()), ahead)
        self.same((store.ask(question=BUS, number=1), store.walk(ask=("a", BUS, None), number=None)), ((("a", "b"),), ("a", ((AXB, 1),))))
        self.same(store.shut(ask=("b", BUS, None), number=1), (("b", 0),))

    def with_reader(self, store, value):
        """Calls with a reader's number, which may be None for now."""
        if value is None:
            return []
        return [store.graph, lambda some: store.ask(None, some), lambda some: store.walk(None, some), lambda some: store.shut(None, some)]

    def test_the_disk(self):
        store = Store()
        store.change((("node", "a"),))
        self.same((store.sure(), store.sync(), store.sure()), (0, None, 1))
        store.change((("node", "b"),))
        self.same((store.draw(), store.sure(), store.settle(), store.sure()), (None, 1, None, 2))
        self.same(store.disk()[2], ())
        self.same(store.disk()[0], put_image(2, (("a", 0), ("b", 0))))
        self.same(Store(store.cut(numbers=(0, 0, 0))).graph(), (("a", "b"), ()))
        self.told(InvalidSize, "cut", store.cut, (0, 0, store.choices()[2]))

    def test_the_greatest_in_good_time(self):
        started = time.time()
        rng = random.Random(294)
        graph = greatest_graph(("x", "bus"))
        store = Store()
        store.change([("line", line, price) for line, price in graph[1]])
        self.same(store.graph(), graph)
        question = ("row", (("star", ("any", 1)), BUS) + (("any", 1),) * 5)
        for at, name in enumerate("abcdef"):
            store.keep(name, question[:1] + (question[1][at:],))
            store.forbid(name, ("row", (("star", ("any", 1)), ("one", "far", 1)) + (("any", 1),) * at))
            for _ in range(3):
                store.watch(name)
        for at in range(20):
            store.look()
            line = rng.choice(graph[1])[0]
            store.change((("cut", line),) if at % 2 else (("line", line, at + 100),))
        ask = ("n0", question, "n5")
        walk = store.walk(ask)
        self.assertTrue(walk is None or answers_ask(store.graph(), ask, walk))
        self.same(store.kept("a"), store.ask(question))
        self.assertLessEqual(store.sure(), store.now)
        again = Store(store.cut((0, 0, store.choices()[2] - 1)))
        self.same((again.now, again.graph()), (store.now, store.graph()))
        self.assertLess(time.time() - started, 10)


class DrawnDeedsTest(Case):
    def test_random_deeds_of_all_kinds(self):
        rng = random.Random(295)
        store, graph = Store(), EMPTY
        for _ in range(40):
            batch = [random_deed(rng) for _ in range(rng.randint(0, 6))]
            graph = all_done(graph, batch)
            store.change(batch)
            self.same(store.graph(), graph)
        self.same(Store(store.disk()).graph(), graph)
