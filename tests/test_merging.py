import random

from spelledways.asof import map_at, needed, over, writes_between, written
from spelledways.errors import InvalidKey, NoName, Refused
from spelledways.graphs import EMPTY, all_done
from spelledways.lines import is_graph_map, map_of_graph
from spelledways.merging import back, clashes, merged, merged_graphs, rebased
from spelledways.pins import Pins
from tests.common import Case, odd_values
from tests.test_asof import map_of, plain_writes, random_map, some_writes
from tests.test_graphs import random_deed
from tests.test_versions import behind, random_writes


def plain_clashes(base, one, other):
    keys = sorted(set(base) | set(one) | set(other))
    return tuple(key for key in keys
                 if one.get(key) != base.get(key) and other.get(key) != base.get(key) and one.get(key) != other.get(key))


def plain_merged(base, one, other):
    found = {key: (one if one.get(key) != base.get(key) else other).get(key) for key in set(base) | set(one) | set(other)}
    return {key: found[key] for key in found if found[key] is not None}


class MergingTest(Case):
    def test_beside_plain_dicts(self):
        rng = random.Random(331)
        seen = {True: 0, False: 0}
        for _ in range(600):
            base = random_map(rng)
            one, other = [behind(base, some_writes(rng)[:rng.randint(0, 3)]) for _ in range(2)]
            maps = map_of(base), map_of(one), map_of(other)
            turned = maps[0], maps[2], maps[1]
            found = plain_clashes(base, one, other)
            seen[bool(found)] += 1
            self.same((clashes(*maps), clashes(*turned)), (found, found))
            if found:
                self.told(Refused, "clash", merged, *maps)
            else:
                self.same(merged(*maps), map_of(plain_merged(base, one, other)))
                self.same(merged(*turned), merged(*maps))
            self.look_at_orders(maps, found)
            self.same((merged(maps[0], maps[1], maps[0]), merged(maps[0], maps[0], maps[1])), (maps[1], maps[1]))
            self.same(merged(maps[0], maps[1], maps[1]), maps[1])
        self.assertGreater(min(seen.values()), 60)

    def look_at_orders(self, maps, found):
        """No clashes exactly if the writes to both lead to the same map in both orders, and this is the merged one."""
        base, one, other = maps
        first, second = plain_writes(dict(base), dict(one)), plain_writes(dict(base), dict(other))
        ways = written(written(base, first), second), written(written(base, second), first)
        self.assertIs(ways[0] == ways[1], not found)
        if not found:
            self.same(merged(base, one, other), ways[0])

    def test_edges(self):
        base = (("a", 1), ("b", 2))
        self.same(clashes(base=base, one=(("a", 3), ("b", 2)), other=(("a", 4), ("b", 2))), ("a",))
        self.same(clashes(base, (("a", 3), ("b", 2)), (("b", 5),)), ("a",))
        self.same(clashes(base, (("b", 2),), (("b", 2),)), ())
        self.same(clashes(base, (("b", 2),), base), ())
        self.same(clashes(base, base + (("c", 1),), base + (("c", 2),)), ("c",))
        self.same(clashes((), (), ()), ())
        self.same(clashes(base, (), (("a", 7), ("b", 8))), ("a", "b"))
        self.same(merged(base=base, one=(("a", 3), ("b", 2)), other=(("a", 1), ("c", 5))), (("a", 3), ("c", 5)))
        self.same(merged(base, (("b", 2),), (("b", 2),)), (("b", 2),))
        self.same(merged(base, base + (("c", 1),), base + (("c", 1),)), base + (("c", 1),))
        self.same(merged(base, (), base), ())
        self.told(Refused, "clash", merged, base, (), (("a", 7), ("b", 2)))
        self.told(Refused, "clash", merged, (), (("a", 0),), (("a", ""),))


class GraphsTest(Case):
    def test_beside_merged_maps(self):
        rng = random.Random(332)
        seen = {"graph": 0, "clash": 0, "end": 0}
        for _ in range(1500):
            nodes, kinds = ["a", "b", "c", "d"], ["x", "y"]
            base = all_done(EMPTY, [random_deed(rng, nodes, kinds) for _ in range(5)])
            one, other = [all_done(base, [random_deed(rng, nodes, kinds) for _ in range(rng.randint(0, 2))]) for _ in range(2)]
            maps = [dict(map_of_graph(graph)) for graph in (base, one, other)]
            entries = map_of(plain_merged(*maps))
            if plain_clashes(*maps):
                seen["clash"] += 1
                self.told(Refused, "clash", merged_graphs, base, one, other)
            elif not is_graph_map(entries):
                seen["end"] += 1
                self.told(Refused, "clash", merged_graphs, base, one, other)
            else:
                seen["graph"] += 1
                self.same(map_of_graph(merged_graphs(base, one, other)), entries)
        self.assertGreater(min(seen.values()), 5)

    def test_edges(self):
        base = (("a", "b"), ())
        line, price = ("a", "x", "b"), ((("a", "x", "b"), 3),)
        self.same(merged_graphs(base=base, one=(("a", "b"), price), other=(("a", "b", "c"), ())), (("a", "b", "c"), price))
        # The one drops a node to which the other one leads a line: nothing clashes but the line's end.
        self.told(Refused, "clash", merged_graphs, base, (("a", "b"), price), (("a",), ()))
        self.told(Refused, "clash", merged_graphs, base, (("b",), ()), (("a", "b"), price))
        self.same(merged_graphs(base, (("a", "b"), price), (("a", "b"), price)), (("a", "b"), price))
        self.told(Refused, "clash", merged_graphs, base, (("a", "b"), price), (("a", "b"), ((line, 4),)))
        self.told(Refused, "clash", merged_graphs, (("a", "b"), price), EMPTY, (("a", "b"), ((line, 4),)))
        self.same(merged_graphs((("a", "b"), price), EMPTY, (("a", "b"), price)), EMPTY)
        self.same(merged_graphs(EMPTY, EMPTY, EMPTY), EMPTY)


class RebasedTest(Case):
    def test_beside_plain_dicts(self):
        rng = random.Random(333)
        seen = {True: 0, False: 0}
        for _ in range(300):
            pins, maps = Pins(), [{}]
            for name in (None, None, "pin", None, None)[rng.randint(0, 2):]:
                if name:
                    pins.pin(name)
                    pinned = maps[-1]
                elif rng.random() < 0.8:
                    writes = random_writes(rng)[:rng.randint(1, 3)]
                    pins.commit(writes)
                    maps.append(behind(maps[-1], writes))
            now = maps[-1]
            self.same(back(pins, "pin"), plain_writes(now, pinned))
            self.same(written(map_of(now), back(pins, "pin")), map_of(pinned))
            writes = some_writes(rng)[:rng.randint(0, 3)]
            clash = any(now.get(key) not in (pinned.get(key), value) for key, value in writes)
            seen[clash] += 1
            if clash:
                self.told(Refused, "clash", rebased, pins, "pin", writes)
                continue
            told = rebased(pins, "pin", writes)
            self.same(told, tuple((key, value) for key, value in writes if now.get(key) != value))
            self.same(told, needed(map_of(now), writes))
            here = map_of(behind(pinned, writes))
            self.same(merged(map_of(pinned), map_of(now), here), written(map_of(now), told))
        self.assertGreater(min(seen.values()), 60)

    def test_edges(self):
        pins = Pins()
        pins.commit((("a", 1), ("b", 2)))
        pins.pin("old")
        pins.commit((("a", 5), ("b", None), ("c", 3)))
        self.same(back(pins=pins, name="old"), (("a", 1), ("b", 2), ("c", None)))
        self.same(rebased(pins=pins, name="old", writes=()), ())
        self.same(rebased(pins, "old", (("a", 5), ("b", None), ("c", 3), ("d", 4), ("e", None))), (("d", 4),))
        for writes in ((("a", 7),), (("a", 1),), (("a", None),), (("b", 2),), (("b", 9),), (("c", None),), (("c", 4),)):
            self.told(Refused, "clash", rebased, pins, "old", writes)
        pins.pin("new")
        self.same((back(pins, "new"), rebased(pins, "new", (("a", 7), ("b", 1), ("c", 3)))), ((), (("a", 7), ("b", 1))))
        for value in odd_values() + ["q", "older"]:
            with self.assertRaises(NoName) as held:
                back(pins, value)
            self.assertIs(held.exception.name, value)
            self.told(NoName, value, rebased, pins, value, ())
        pins.unpin("old")
        self.told(NoName, "old", back, pins, "old")
        self.told(InvalidKey, -1, pins.commit, ())

    def test_over_the_stamps(self):
        rng = random.Random(334)
        for _ in range(40):
            pins = Pins()
            for at in range(4):
                pins.commit(random_writes(rng))
                pins.pin("abcd"[at])
            versions = pins.keeper.versions
            for at in range(4):
                self.same(back(pins, "abcd"[at]), writes_between(versions, 4, at + 1))
                self.same(map_at(versions, 4), written(pins.scan("abcd"[at]), writes_between(versions, at + 1, 4)))
            self.same(over(back(pins, "b"), ()), back(pins, "b"))
