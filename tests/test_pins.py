import itertools
import random
import time

from spelledways.errors import InvalidKey, InvalidRange, InvalidSize, InvalidValue, NoName, Refused
from spelledways.freeing import Keeper
from spelledways.graphs import EMPTY, all_done
from spelledways.lines import writes_of_batch
from spelledways.pins import (Pins, added_effects, asked, cost, effect_between, graph_of, held_by, thinned, values_kept)
from spelledways.search import answers
from tests.common import Case, odd_values
from tests.test_freeing import plain_kept
from tests.test_graphs import random_deed
from tests.test_versions import KEYS, behind, random_row, random_writes
from tests.test_watchers import random_pairs

NAMES = ["a", "b", "base", "zzzzzzzz", "old", "new"]
BUS = ("one", "bus", 1)


def plain_values(rows, stamps, now):
    """How many versions with a value are the last ones up to one of these stamps, or to now."""
    seen = set()
    for key, row in rows:
        for stamp in tuple(stamps) + (now,):
            some = [version for version in row if version[0] <= stamp]
            if some and some[-1][1] is not None:
                seen.add((key, some[-1]))
    return len(seen)


class PinsTest(Case):
    def random_pins(self, rng, deeds):
        """Pins behind some deeds, the rows ever added, the names with their stamps, and the maps at all stamps."""
        pins, names, maps, added = Pins(), {}, [{}], {}
        for _ in range(deeds):
            choice = rng.random()
            if choice < 0.5:
                writes = random_writes(rng)
                maps.append(behind(maps[-1], writes))
                self.same(pins.commit(writes)[0], len(maps) - 1)
                for key, value in writes:
                    added.setdefault(key, []).append((len(maps) - 1, value))
            elif choice < 0.8 and len(names) < len(NAMES):
                name = rng.choice([name for name in NAMES if name not in names])
                stamp = rng.choice([None, len(maps) - 1] + list(names.values()))
                names[name] = len(maps) - 1 if stamp is None else stamp
                self.same(pins.pin(name, stamp), names[name])
            elif names:
                name = rng.choice(sorted(names))
                names.pop(name)
                pins.unpin(name)
            self.look_at(pins, names, maps, added)
        return pins, names, maps, added

    def look_at(self, pins, names, maps, added):
        self.same(pins.names(), tuple(sorted(names)))
        stamps = tuple(sorted(set(names.values())))
        left = [(key, plain_kept(tuple(added[key]), stamps)) for key in sorted(added)]
        self.same(pins.keeper.versions.rows(), tuple(pair for pair in left if pair[1]))
        for name, stamp in names.items():
            self.same(pins.stamp_of(name), stamp)
            self.same(pins.scan(name), tuple(sorted(maps[stamp].items(), key=lambda entry: entry[0])))
            for key in KEYS:
                self.same(pins.read(name, key), maps[stamp].get(key))

    def test_rows_of_deeds(self):
        rng = random.Random(251)
        for _ in range(25):
            self.random_pins(rng, 40)

    def test_what_goes(self):
        pins, keeper = Pins(), Keeper()
        self.assertIs(type(pins.keeper), Keeper)
        rng = random.Random(252)
        numbers = {}
        for _ in range(60):
            writes = random_writes(rng)
            self.same(pins.commit(writes=writes), keeper.commit(writes))
            name = rng.choice(NAMES)
            if name in numbers:
                self.same(pins.unpin(name=name), keeper.close(numbers.pop(name)))
            else:
                pins.pin(name=name)
                numbers[name] = keeper.begin()
        self.same(pins.keeper.versions.rows(), keeper.versions.rows())

    def test_wrong_names(self):
        pins = Pins()
        pins.commit((("a", 1),))
        self.same(pins.pin("now", stamp=1), 1)
        for value in odd_values() + ["A", "a1", "a b", "abcdefghi", "a_", "\u00e4"]:
            self.told(InvalidSize, "name", pins.pin, value)
            self.told(InvalidSize, "name", pins.pin, value, None)
        self.told(InvalidSize, "name", pins.pin, "", "x")
        self.told(Refused, "name", pins.pin, "now", "x")
        for value in odd_values():
            if value is not None and value != 10 ** 19:
                self.told(InvalidSize, "stamp", pins.pin, "other", value)
        self.told(Refused, "stamp", pins.pin, "other", 0)
        self.told(Refused, "stamp", pins.pin, "other", 10 ** 19)
        self.same((pins.names(), pins.keeper.snapshots.live()), (("now",), (1,)))
        for value in odd_values() + ["other", ("now",)]:
            for call in (pins.unpin, pins.stamp_of, pins.scan, lambda name: pins.read(name, None), lambda name: pins.scan(name, 1, 1),
                         lambda name: graph_of(pins, name), lambda name: asked(pins, name, BUS), lambda name: cost(pins, [name]),
                         lambda name: cost(pins, ("now", name)), lambda name: effect_between(pins, name, "now", BUS)):
                with self.assertRaises(NoName) as held:
                    call(value)
                self.assertIs(held.exception.name, value)
        for value in odd_values():
            if not isinstance(value, str) or value == "":
                self.told(InvalidKey, -1, pins.read, "now", value)
                self.told(InvalidKey, -1, held_by, pins, value)
            if value is not None and not isinstance(value, str):
                self.told(InvalidRange, 0, pins.scan, "now", value, value)
                self.told(InvalidRange, 1, pins.scan, "now", None, value)
        self.told(InvalidValue, 0, pins.commit, (("a", True),))
        self.told(InvalidKey, -1, pins.commit, ())
        self.same((pins.read(name="now", key="a"), pins.scan(name="now", low="b", high=None)), (1, ()))

    def test_two_names_at_one_stamp(self):
        pins = Pins()
        pins.commit((("a", 1), ("b", 1)))
        pins.pin("one")
        pins.pin("two", 1)
        pins.commit((("a", 2),))
        self.same((cost(pins, ("one",)), cost(pins, ["two"])), ((), ()))
        self.same(cost(pins, ("one", "two", "one")), (("a", (1, 1)),))
        self.same(held_by(pins, "a"), (((1, 1), ("one", "two")), ((2, 2), ())))
        self.same(held_by(pins, "b"), (((1, 1), ("one", "two")),))
        self.same(held_by(pins=pins, key="c"), ())
        self.same((pins.unpin("one"), pins.unpin("two")), ((), (("a", (1, 1)),)))
        self.same(pins.pin("one"), 2)


class CostTest(Case):
    def test_beside_what_goes_in_each_order(self):
        rng = random.Random(261)
        for _ in range(30):
            seed = rng.random()
            pins, names, _, _ = PinsTest().random_pins(random.Random(seed), 30)
            some = rng.sample(sorted(names), min(len(names), 3))
            told = cost(pins, some + some[:1])
            self.same(told, cost(pins=pins, names=tuple(some)))
            for order in itertools.permutations(some):
                again = PinsTest().random_pins(random.Random(seed), 30)[0]
                went = [pair for name in order for pair in again.unpin(name)]
                self.assertEqual(len(went), len(set(went)))
                self.same(tuple(sorted(went, key=lambda pair: (pair[0], pair[1][0]))), told)
            self.same(cost(pins, ()), ())

    def test_two_lots(self):
        rng = random.Random(262)
        for _ in range(40):
            pins, names, _, _ = PinsTest().random_pins(rng, 30)
            mixed = rng.sample(sorted(names), len(names))
            at = rng.randint(0, len(mixed))
            one, other, both = cost(pins, mixed[:at]), cost(pins, mixed[at:]), cost(pins, mixed)
            self.assertFalse([pair for pair in set(one) & set(other) if pair[1][1] is not None])
            self.assertTrue(set(one) | set(other) <= set(both))

    def test_held_by(self):
        rng = random.Random(263)
        for _ in range(25):
            pins, names, _, _ = PinsTest().random_pins(rng, 30)
            for key in KEYS:
                row = pins.keeper.versions.row(key)
                wanted = []
                for at, version in enumerate(row):
                    last = row[at + 1][0] - 1 if at + 1 < len(row) else 10 ** 9
                    wanted.append((version, tuple(name for name in sorted(names) if version[0] <= names[name] <= last)))
                self.same(held_by(pins, key), tuple(wanted))


class GraphsTest(Case):
    def committed(self, pins, graph, batch):
        pins.commit(writes_of_batch(graph, batch))
        return all_done(graph, batch)

    def test_graphs_and_effects(self):
        rng = random.Random(271)
        for _ in range(20):
            pins, graph, graphs = Pins(), EMPTY, {}
            for name in ("one", "two", "three", "four"):
                graph = self.committed(pins, graph, [("node", name[:2])] + [random_deed(rng, ["a", "b", "c"], ["bus", "x"]) for _ in range(4)]
                                       + [("line", ("a", "bus", name[:2]), len(graphs))])
                pins.pin(name)
                graphs[name] = graph
            question = rng.choice([BUS, ("star", ("any", 1)), ("row", (BUS, ("any", -1)))])
            for name in graphs:
                self.same(graph_of(pins=pins, name=name), graphs[name])
                self.same(asked(pins=pins, name=name, question=question), answers(graphs[name], question))
            for one, other, third in itertools.permutations(graphs, 3):
                ahead, then, last = [set(answers(graphs[name], question)) for name in (one, other, third)]
                first = effect_between(pins=pins, one=one, other=other, question=question)
                self.same(first, (tuple(sorted(then - ahead)), tuple(sorted(ahead - then))))
                second = effect_between(pins, other, third, question)
                self.same(added_effects(first=first, second=second), effect_between(pins, one, third, question))

    def test_no_graph(self):
        pins = Pins()
        pins.pin("empty")
        pins.commit((("a", 1),))
        pins.pin("bad")
        pins.commit((("a", 0),))
        pins.pin("good")
        self.same((graph_of(pins, "empty"), graph_of(pins, "good")), (EMPTY, (("a",), ())))
        self.told(Refused, "graph", graph_of, pins, "bad")
        self.told(Refused, "graph", asked, pins, "bad", BUS)
        # All errors of the first name come ahead of all of the second one.
        self.told(Refused, "graph", effect_between, pins, "bad", "none", BUS)
        self.told(NoName, "none", effect_between, pins, "good", "none", BUS)
        self.told(NoName, "none", effect_between, pins, "none", "bad", BUS)
        self.told(Refused, "graph", effect_between, pins, "good", "bad", BUS)
        self.same(effect_between(pins, "empty", "good", ("empty",)), ((("a", "a"),), ()))
        self.same(effect_between(pins, "good", "good", ("empty",)), ((), ()))

    def test_added_effects(self):
        rng = random.Random(272)
        for _ in range(100):
            one, two, three = [set(random_pairs(rng)) for _ in range(3)]
            lots = [tuple((tuple(sorted(then - ahead)), tuple(sorted(ahead - then)))) for ahead, then in ((one, two), (two, three), (one, three))]
            self.same(added_effects(lots[0], lots[1]), lots[2])


class ThinnedTest(Case):
    def random_rows(self, rng):
        rows = [(key, random_row(rng)) for key in sorted(rng.sample(KEYS, rng.randint(0, len(KEYS))))]
        return tuple(pair for pair in rows if pair[1])

    def test_beside_all_tuples(self):
        rng = random.Random(281)
        for _ in range(120):
            rows = self.random_rows(rng)
            stamps = tuple(sorted(rng.sample(range(17), rng.randint(0, 6))))
            now = max([18] + [row[-1][0] for _, row in rows]) + rng.randint(0, 2)
            self.same(values_kept(rows, stamps, now), plain_values(rows, stamps, now))
            for many in range(len(stamps) + 1):
                tries = [(plain_values(rows, some, now), some) for some in itertools.combinations(stamps, many)]
                self.same(thinned(rows, stamps, now, many), min(tries)[1])
                self.same(values_kept(rows, thinned(rows, stamps, now, many), now), min(tries)[0])

    def test_wrong_many(self):
        rows = (("a", ((1, 1), (3, None))),)
        for value in odd_values() + [3, "2", 2.5]:
            self.told(InvalidSize, "many", thinned, rows, (1, 2), 5, value)
        self.same(thinned(rows=rows, stamps=(1, 2), now=5, many=1), (1,))
        self.same((thinned(rows, (1, 3), 5, 1), thinned(rows, (), 5, 0), thinned((), (2, 4), 5, 2)), ((3,), (), (2, 4)))
        self.same((values_kept(rows=rows, stamps=(3,), now=5), values_kept((), (), 0), values_kept(rows, (2,), 5)), (0, 0, 1))

    def test_the_greatest_in_good_time(self):
        started = time.time()
        rng = random.Random(282)
        rows = tuple((f"k{at:02d}", tuple((stamp, rng.choice([1, None, "x"])) for stamp in sorted(rng.sample(range(1, 60), 12))))
                     for at in range(40))
        stamps = tuple(range(0, 60, 2))
        for many in (0, 1, 15, 29, 30):
            told = thinned(rows, stamps, 60, many)
            self.same(len(told), many)
            self.assertLessEqual(values_kept(rows, told, 60), values_kept(rows, stamps[:many], 60))
        pins = Pins()
        for at in range(30):
            pins.commit(tuple((f"k{key:02d}", at) for key in range(40)))
            pins.pin("abcdefghijklmnopqrstuvwxyz"[at % 26] * (at // 26 + 1))
        self.same(len(cost(pins, pins.names())), 40 * 29)
        self.assertLess(time.time() - started, 4)
