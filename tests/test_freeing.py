import itertools
import random
import unittest

from spelledways.errors import InvalidKey, InvalidRange, InvalidSize, InvalidValue, NoName, Refused
from spelledways.freeing import Keeper, costs, free, holds, kept
from spelledways.snapshots import Snapshots
from spelledways.versions import Versions, seen, value_at, versions_from
from tests.common import Case, odd_values
from tests.test_versions import KEYS, behind, random_row, random_writes


def plain_kept(row, stamps):
    """What stays, told once more: by whom each stamp sees."""
    seen = {max((v for v in row if v[0] <= stamp), default=None, key=lambda v: v[0]) for stamp in stamps}
    left = [version for version in row if version in seen or version == row[-1]]
    while left and left[0][1] is None:
        left.pop(0)
    return tuple(left)


def gone_pairs(rows, left):
    return tuple(sorted((key, version) for key in rows for version in rows[key] if version not in left.get(key, ())))


class KeptTest(Case):
    def test_beside_a_search(self):
        rng = random.Random(71)
        for _ in range(600):
            row = random_row(rng)
            stamps = tuple(sorted(rng.sample(range(17), rng.randint(0, 5))))
            left = kept(row, stamps)
            self.same(left, plain_kept(row, stamps))
            self.assertTrue(len(left) <= len(stamps) + 1)
            last = row[-1][0] if row else 0
            for stamp in list(stamps) + list(range(last, 18)):
                self.same(value_at(left, stamp), value_at(row, stamp))
            fewer = tuple(stamp for stamp in stamps if rng.random() < 0.6)
            self.same(kept(left, fewer), kept(row, fewer))
            self.same(kept(left, stamps), left)

    def test_it_is_the_least_part(self):
        rng = random.Random(72)
        for _ in range(120):
            row = random_row(rng)[:6]
            stamps = tuple(sorted(rng.sample(range(17), rng.randint(0, 3))))
            asked = list(stamps) + list(range(row[-1][0] if row else 0, 18))
            fits = [part for many in range(len(row) + 1) for part in itertools.combinations(row, many)
                    if all(self.still_sees(row, part, stamp) for stamp in asked)]
            self.assertEqual(len(min(fits, key=len)), len(kept(row, stamps)))
            self.assertTrue(all(set(kept(row, stamps)) <= set(part) for part in fits))

    def still_sees(self, row, part, stamp):
        """The stamp sees the version that it saw, or none in the place of an erasing one."""
        version, other = seen(row, stamp), seen(part, stamp)
        return version == other or (other is None and version[1] is None)

    def test_edges(self):
        self.same(kept((), (1, 2)), ())
        self.same(kept(((2, None),), ()), ())
        self.same(kept(((2, None),), (2, 5)), ())
        self.same(kept(((2, 1), (4, None)), ()), ())
        self.same(kept(((2, 1), (4, None)), (2,)), ((2, 1), (4, None)))
        self.same(kept(((2, 1), (4, 2)), (3,)), ((2, 1), (4, 2)))
        self.same(kept(((2, 1), (4, 2)), (4,)), ((4, 2),))
        self.same(kept(((2, 1), (4, 2)), (1,)), ((4, 2),))
        self.same(kept(row=((2, 1), (3, 5), (5, None), (7, 3)), stamps=(2, 5, 6)), ((2, 1), (5, None), (7, 3)))
        self.same(kept(((1, None), (2, None), (3, 4)), (1, 2)), ((3, 4),))


class FreeTest(Case):
    def test_rows_and_what_goes(self):
        rng = random.Random(73)
        for _ in range(40):
            versions = Versions()
            for _ in range(rng.randint(0, 12)):
                versions.add(random_writes(rng))
            rows, now = dict(versions.rows()), versions.now
            stamps = tuple(sorted(rng.sample(range(now + 1), rng.randint(0, min(5, now)))))
            left = {key: plain_kept(rows[key], stamps) for key in rows}
            self.same(free(versions, stamps), gone_pairs(rows, left))
            self.same(versions.rows(), tuple((key, left[key]) for key in sorted(left) if left[key]))
            self.same((versions.now, versions.since, versions.stamps), (now, now, stamps))
            self.same(versions.how_many(), sum(map(len, left.values())))
            for key in KEYS:
                self.same(versions.row(key), left.get(key, ()))
            fewer = stamps[::2]
            self.same(free(versions, fewer), gone_pairs(left, {key: plain_kept(rows[key], fewer) for key in rows}))

    def test_wrong_stamps(self):
        versions = versions_from((("a", ((1, 0), (4, 1))),), 5, (1, 3))
        before = (versions.rows(), versions.stamps, versions.since)
        for stamps in odd_values() + [[1], (1, 1), (3, 1), (6,), (1, 6), (-1,), (True, 3), (1, "3"), (0, 3, 3), (0, 6)]:
            if stamps != ():
                self.told(InvalidSize, "stamp", free, versions, stamps)
        for stamps in ((0,), (1, 2), (4, 5), (1, 3, 4, 5)):
            self.told(Refused, "stamp", free, versions, stamps)
        self.same((versions.rows(), versions.stamps, versions.since), before)
        self.same(free(versions=versions, stamps=(3, 5)), ())
        self.same(free(versions, (5,)), (("a", (1, 0)),))
        self.told(Refused, "stamp", free, versions, (3,))
        self.same(free(versions, ()), ())


class KeeperTest(Case):
    def look_at(self, keeper, added, live, maps):
        """The keeper has just what has to stay, and tells what stood at each live stamp and now."""
        stamps = tuple(sorted(set(live.values())))
        self.same((keeper.versions.stamps, keeper.versions.since), (stamps, keeper.versions.now))
        left = {key: plain_kept(tuple(added[key]), stamps) for key in added}
        self.same(keeper.versions.rows(), tuple((key, left[key]) for key in sorted(left) if left[key]))
        self.same(keeper.snapshots.live(), stamps)
        for number, stamp in live.items():
            plain = maps[stamp]
            self.same(keeper.scan(number, None, None), tuple(sorted(plain.items(), key=lambda entry: entry[0])))
            for key in KEYS:
                self.same(keeper.read(number, key), plain.get(key))
        return left

    def test_rows_of_deeds(self):
        rng = random.Random(74)
        for _ in range(25):
            keeper, added, live, maps, last = Keeper(), {}, {}, [{}], 0
            left = {}
            for _ in range(60):
                chance = rng.random()
                ahead = {key: set(left[key]) for key in left}
                if chance < 0.45:
                    writes = random_writes(rng)
                    stamp, went = keeper.commit(writes)
                    maps.append(behind(maps[-1], writes))
                    self.same(stamp, len(maps) - 1)
                    for key, value in writes:
                        added.setdefault(key, []).append((stamp, value))
                        ahead.setdefault(key, set()).add((stamp, value))
                elif chance < 0.75 or not live:
                    stamp = rng.choice([None] + list(live.values()) + [len(maps) - 1])
                    last += 1
                    self.same(keeper.begin(stamp), last)
                    live[last] = len(maps) - 1 if stamp is None else stamp
                    went = ()
                else:
                    number = rng.choice(list(live))
                    live.pop(number)
                    went = keeper.close(number)
                left = self.look_at(keeper, added, live, maps)
                self.same(went, gone_pairs(ahead, left))
                self.look_at_costs(keeper, left, set(live.values()))

    def look_at_costs(self, keeper, left, live):
        held_by_all = []
        for stamp in range(keeper.versions.now + 2):
            rest = tuple(sorted(live - {stamp}))
            cost = costs(keeper, stamp)
            self.same(cost, gone_pairs(left, {key: plain_kept(left[key], rest) for key in left}))
            held = holds(keeper, stamp)
            held_by_all += held
            if stamp not in live:
                self.same((cost, held), ((), ()))
            below = max([other for other in live if other < stamp], default=-1)
            for key, version in cost:
                if version[1] is not None:
                    self.assertIn((key, version), held)
                    self.assertNotEqual(version, max((v for v in left[key] if v[0] <= below), default=None, key=lambda v: v[0]))
            for key, version in held:
                at = left[key].index(version)
                inside = [other for other in live if version[0] <= other < left[key][at + 1][0]]
                self.assertEqual(max(inside), stamp)
        self.same(sorted(held_by_all, key=lambda pair: (pair[0], pair[1][0])),
                  [(key, version) for key in sorted(left) for version in left[key][:-1]])

    def test_closed_in_each_order(self):
        ends = set()
        for order in itertools.permutations((1, 2, 3, 4)):
            keeper = Keeper()
            for at, value in enumerate((1, None, 2, None)):
                keeper.commit((("x", value), ("y", at)))
                if at != 1:
                    keeper.begin()
            keeper.begin(1)
            went = [pair for number in order for pair in keeper.close(number)]
            self.assertEqual(len(went), len(set(went)))
            ends.add((keeper.versions.rows(), tuple(sorted(went, key=repr))))
        self.assertEqual(len(ends), 1)
        self.same(keeper.versions.rows(), (("y", ((4, 3),)),))

    def test_an_erasing_version_of_nothing_comes_and_goes(self):
        keeper = Keeper()
        self.same(keeper.commit((("a", None), ("b", 1))), (1, (("a", (1, None)),)))
        self.same(keeper.commit((("b", None),)), (2, (("b", (1, 1)), ("b", (2, None)))))
        self.same(keeper.versions.how_many(), 0)

    def test_begins(self):
        keeper = Keeper()
        self.assertIs(type(keeper.versions), Versions)
        self.assertIs(type(keeper.snapshots), Snapshots)
        for stamp in odd_values():
            if stamp is not None and stamp != 10 ** 19:
                self.told(InvalidSize, "stamp", keeper.begin, stamp)
        self.told(Refused, "stamp", keeper.begin, 10 ** 19)
        self.told(Refused, "stamp", keeper.begin, 1)
        self.same(keeper.begin(0), 1)
        keeper.commit((("a", 1),))
        keeper.commit((("a", 2),))
        self.told(Refused, "stamp", keeper.begin, 1)
        self.told(Refused, "stamp", keeper.begin, 3)
        self.same((keeper.begin(0), keeper.begin(stamp=2), keeper.begin()), (2, 3, 4))
        self.same(keeper.snapshots.holders(2), (3, 4))
        self.same((keeper.close(1), keeper.close(number=2)), ((), ()))
        self.told(Refused, "stamp", keeper.begin, 0)

    def test_wrong_arguments_in_their_order(self):
        keeper = Keeper()
        keeper.begin()
        keeper.commit((("a", 1),))
        for value in odd_values():
            for call in (lambda: keeper.close(value), lambda: keeper.read(value, None), lambda: keeper.scan(value, 1, 1)):
                with self.assertRaises(NoName) as held:
                    call()
                self.assertIs(held.exception.name, value)
            if not isinstance(value, str) or value == "":
                self.told(InvalidKey, -1, keeper.read, 1, value)
            if value is not None and not isinstance(value, str):
                self.told(InvalidRange, 0, keeper.scan, 1, value, value)
                self.told(InvalidRange, 1, keeper.scan, 1, "a", value)
            with self.assertRaises((InvalidKey, InvalidValue)):
                keeper.commit(value)
        self.told(InvalidValue, 0, keeper.commit, (("a", True),))
        self.same((keeper.versions.now, keeper.versions.rows()), (1, (("a", ((1, 1),)),)))
        self.same(keeper.read(number=1, key="a"), None)
        self.same(keeper.scan(number=1, low=None, high=None), ())
        keeper.close(1)
        self.told(NoName, 1, keeper.close, 1)

    def test_parameters_of_costs(self):
        keeper = Keeper()
        keeper.commit(writes=(("a", 1),))
        keeper.begin()
        keeper.commit((("a", 2),))
        self.same(holds(keeper=keeper, stamp=1), (("a", (1, 1)),))
        self.same(costs(keeper=keeper, stamp=1), (("a", (1, 1)),))


if __name__ == "__main__":
    unittest.main()
