import itertools
import random
import time

from spelledways.asof import map_at, needed, over, readable_stamps, runs, undo, writes_between, written
from spelledways.errors import InvalidKey, InvalidSize, Refused
from spelledways.freeing import Keeper, free
from spelledways.versions import Versions, versions_from
from tests.common import Case, odd_values
from tests.test_versions import KEYS, behind, random_writes


def map_of(entries):
    return tuple(sorted(entries.items()))


def plain_writes(ahead, later):
    keys = sorted(set(ahead) | set(later))
    return tuple((key, later.get(key)) for key in keys if ahead.get(key) != later.get(key))


def some_writes(rng):
    """Writes, perhaps none."""
    return random_writes(rng) if rng.random() < 0.9 else ()


def random_map(rng):
    return behind({}, random_writes(rng))


class StampsTest(Case):
    def random_versions(self, rng):
        """Versions behind some commits, freed now and then, the maps at all stamps, and the stamps that can be read."""
        versions, maps, readable = Versions(), [{}], {0}
        for _ in range(rng.randint(0, 9)):
            maps.append(behind(maps[-1], random_writes(rng, rng.choice([KEYS, KEYS[:2]]))))
            versions.add(plain_writes({}, {}) or tuple(sorted((key, maps[-1].get(key)) for key in set(maps[-1]) | set(maps[-2]) | {"a"})))
            readable.add(len(maps) - 1)
            if rng.random() < 0.3:
                stamps = tuple(sorted(rng.sample(sorted(readable), rng.randint(0, len(readable)))))
                free(versions, stamps)
                readable = set(stamps) | {len(maps) - 1}
        return versions, maps, sorted(readable)

    def test_beside_plain_maps(self):
        rng = random.Random(321)
        for _ in range(120):
            versions, maps, readable = self.random_versions(rng)
            self.same(readable_stamps(versions), tuple(readable))
            for stamp in range(-1, len(maps) + 1):
                if stamp in readable:
                    self.same(map_at(versions, stamp), map_of(maps[stamp]))
                else:
                    error, word = (Refused, "stamp") if 0 <= stamp < len(maps) else (InvalidSize, "stamp")
                    self.told(error, word, map_at, versions, stamp)
                    self.told(error, word, writes_between, versions, stamp, "x")
                    self.told(error, word, writes_between, versions, readable[-1], stamp)
            for one, other in itertools.product(readable, repeat=2):
                self.same(writes_between(versions, one, other), plain_writes(maps[one], maps[other]))
                self.same(written(map_at(versions, one), writes_between(versions, one, other)), map_at(versions, other))
            for key in KEYS + ["q"]:
                self.same(runs(versions, key), self.plain_runs([(stamp, maps[stamp].get(key)) for stamp in readable]))

    def plain_runs(self, told):
        found = []
        for _, lot in itertools.groupby(told, key=lambda pair: pair[1]):
            lot = list(lot)
            found.append((lot[0][0], lot[-1][0], lot[0][1]))
        return tuple(found)

    def test_what_is_told_stays(self):
        rng = random.Random(322)
        for _ in range(40):
            keeper, told = Keeper(), {}
            for _ in range(12):
                keeper.commit(random_writes(rng))
                if rng.random() < 0.4:
                    keeper.begin()
                for stamp in readable_stamps(keeper.versions):
                    self.same(map_at(keeper.versions, stamp), told.setdefault(stamp, map_at(keeper.versions, stamp)))
            stamps = readable_stamps(keeper.versions)
            for one, other in itertools.combinations(stamps, 2):
                self.same(writes_between(keeper.versions, one, other), plain_writes(dict(told[one]), dict(told[other])))

    def test_examples(self):
        versions = Versions()
        self.same((readable_stamps(versions), map_at(versions, 0), runs(versions, "a")), ((0,), (), ((0, 0, None),)))
        for writes in ((("a", 1),), (("a", 1), ("b", 2)), (("a", None),), (("b", 2),), (("a", 1),)):
            versions.add(writes)
        self.same(runs(versions=versions, key="a"), ((0, 0, None), (1, 2, 1), (3, 4, None), (5, 5, 1)))
        self.same(runs(versions, "b"), ((0, 1, None), (2, 5, 2)))
        self.same(runs(versions, "never"), ((0, 5, None),))
        self.same(writes_between(versions=versions, one=2, other=3), (("a", None),))
        self.same(writes_between(versions, 5, 0), (("a", None), ("b", None)))
        self.same(writes_between(versions, 2, 5), ())
        free(versions, (1, 4))
        # Stamps between that can not be read are left out: so those around them are neighbours.
        self.same(readable_stamps(versions=versions), (1, 4, 5))
        self.same((runs(versions, "a"), runs(versions, "b")), (((1, 1, 1), (4, 4, None), (5, 5, 1)), ((1, 1, None), (4, 5, 2))))
        self.same(map_at(versions=versions, stamp=4), (("b", 2),))
        self.told(Refused, "stamp", map_at, versions, 3)
        free(versions, (1,))
        self.same((runs(versions, "a"), readable_stamps(versions)), (((1, 5, 1),), (1, 5)))
        great = versions_from((("a", ((3, "x"),)),), 10 ** 9 - 1, (2, 7))
        self.same(readable_stamps(great), (2, 7, 10 ** 9 - 1))
        self.same(runs(great, "a"), ((2, 2, None), (7, 10 ** 9 - 1, "x")))

    def test_wrong_stamps_and_keys(self):
        versions = Versions()
        versions.add((("a", 1),))
        free(versions, ())
        for value in odd_values() + ["1", 2, 1.0]:
            self.told(InvalidSize, "stamp", map_at, versions, value)
            self.told(InvalidSize, "stamp", writes_between, versions, value, 0)
            self.told(InvalidSize, "stamp", writes_between, versions, 1, value)
            self.told(Refused, "stamp", writes_between, versions, 0, value)
            if not isinstance(value, str) or value == "":
                self.told(InvalidKey, -1, runs, versions, value)
        self.told(InvalidKey, 1, runs, versions, "aB")
        self.told(InvalidKey, 16, runs, versions, "a" * 17)


class WritesTest(Case):
    def test_beside_plain_dicts(self):
        rng = random.Random(323)
        for _ in range(400):
            entries, first, second = random_map(rng), some_writes(rng), some_writes(rng)
            self.same(written(map_of(entries), first), map_of(behind(entries, first)))
            both = over(first, second)
            self.same(both, tuple(sorted({**dict(first), **dict(second)}.items())))
            self.same(written(map_of(entries), both), written(written(map_of(entries), first), second))
            back = undo(map_of(entries), first)
            self.same(back, tuple((key, entries.get(key)) for key, _ in first))
            self.same(written(written(map_of(entries), first), back), map_of(entries))
            less = needed(map_of(entries), first)
            self.same(less, plain_writes(entries, behind(entries, first)))
            self.same(written(map_of(entries), less), written(map_of(entries), first))
            for many in range(len(less)):
                for part in itertools.combinations(less, many):
                    self.assertNotEqual(written(map_of(entries), part), written(map_of(entries), first))

    def test_from_one_stamp_over_a_second_to_a_third(self):
        rng = random.Random(324)
        for _ in range(60):
            versions = Versions()
            for _ in range(6):
                versions.add(random_writes(rng))
            for one, two, three in itertools.product(range(7), repeat=3):
                both = over(writes_between(versions, one, two), writes_between(versions, two, three))
                self.same(needed(map_at(versions, one), both), writes_between(versions, one, three))
                self.same(undo(map_at(versions, one), writes_between(versions, one, two)), writes_between(versions, two, one))

    def test_edges(self):
        entries = (("a", 1), ("b", "x"))
        self.same(written(entries=entries, writes=(("a", None), ("c", 0))), (("b", "x"), ("c", 0)))
        self.same((written(entries, ()), written((), (("a", None),)), written((), ())), (entries, (), ()))
        self.same(over(first=(("a", 1), ("c", None)), second=(("a", None), ("b", 2))), (("a", None), ("b", 2), ("c", None)))
        self.same((over((), ()), over((("a", 1),), ()), over((), (("a", 1),))), ((), (("a", 1),), (("a", 1),)))
        self.same(undo(entries=entries, writes=(("a", 7), ("c", 1))), (("a", 1), ("c", None)))
        self.same(needed(entries=entries, writes=(("a", 1), ("b", None), ("c", None), ("d", ""))), (("b", None), ("d", "")))
        self.same((undo((), ()), needed(entries, ()), needed(entries, entries)), ((), (), ()))
        self.same(needed((("a", 0),), (("a", ""),)), (("a", ""),))

    def test_the_greatest_in_good_time(self):
        started = time.time()
        keys = ["k" + str(at) for at in range(100, 220)]
        entries = tuple((key, at) for at, key in enumerate(keys))
        writes = tuple((key, None if at % 3 else at) for at, key in enumerate(keys))
        for _ in range(50):
            self.same(written(entries, writes), entries[::3])
            self.same(needed(entries, writes), tuple(pair for pair in writes if pair[1] is None))
            self.same(written(written(entries, writes), undo(entries, writes)), entries)
        versions = Versions()
        for at in range(60):
            versions.add(tuple((key, at + number) for number, key in enumerate(keys[:40])))
        self.same(len(runs(versions, keys[0])), 61)
        self.same(len(writes_between(versions, 0, 60)), 40)
        self.assertLess(time.time() - started, 2)
