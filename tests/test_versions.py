import random
import unittest

from spelledways.errors import InvalidKey, InvalidRange, InvalidSize, InvalidValue, Refused
from spelledways.versions import Versions, need_writes, seen, spans, value_at, versions_from
from tests.common import Case, odd_values

KEYS = ["a", "a0", "a_", "b", "c1"]


def random_writes(rng, keys=None):
    keys = keys or KEYS
    chosen = sorted(rng.sample(keys, rng.randint(1, len(keys))))
    return tuple((key, rng.choice([None, None, 0, 1, -1, "", "x y"])) for key in chosen)


def behind(entries, writes):
    """The plain map behind writes."""
    entries = dict(entries)
    for key, value in writes:
        entries.pop(key, None)
        if value is not None:
            entries[key] = value
    return entries


def random_row(rng):
    stamps = sorted(rng.sample(range(1, 15), rng.randint(0, 8)))
    return tuple((stamp, rng.choice([None, None, 0, 1, "x"])) for stamp in stamps)


class RowsTest(Case):
    def test_rows_beside_a_search(self):
        rng = random.Random(51)
        for _ in range(300):
            row = random_row(rng)
            told = spans(row)
            self.assertEqual(len(told), len(row))
            for stamp in range(17):
                older = [version for version in row if version[0] <= stamp]
                self.same(seen(row, stamp), older[-1] if older else None)
                self.same(value_at(row, stamp), older[-1][1] if older else None)
                seeing = [version for version, (low, high) in zip(row, told)
                          if low <= stamp and (high is None or stamp <= high)]
                self.same(seeing, older[-1:])
            self.same([span[0] for span in told], [version[0] for version in row])
            self.same([span[1] for span in told], [version[0] - 1 for version in row[1:]] + [None] * bool(row))

    def test_an_empty_row(self):
        self.same((seen((), 5), value_at((), 5), spans(())), (None, None, ()))

    def test_parameters(self):
        row = ((2, None), (4, "x"))
        self.same(seen(row=row, stamp=3), (2, None))
        self.same(value_at(row=row, stamp=4), "x")
        self.same(spans(row=row), ((2, 3), (4, None)))


class WritesTest(Case):
    def test_right_writes(self):
        for writes in ((("a", 1),), (("a", None),), (("a", 1), ("a0", ""), ("b", None))):
            self.assertIsNone(need_writes(writes))

    def test_wrong_writes(self):
        good = ("a", 1)
        cases = [
            (InvalidKey, -1, ()), (InvalidKey, -1, [good]), (InvalidKey, -1, None), (InvalidKey, -1, "ab"),
            (InvalidKey, 0, (["a", 1],)), (InvalidKey, 0, (("a",),)), (InvalidKey, 0, (("a", 1, 2),)), (InvalidKey, 0, (("A", 1),)),
            (InvalidKey, 0, ((1, 1),)), (InvalidKey, 1, (good, good)), (InvalidKey, 1, (good, ("a", 2))),
            (InvalidKey, 1, (("b", 1), ("a", 1))), (InvalidKey, 1, (good, None)), (InvalidKey, 2, (good, ("b", 1), ("b", 1))),
            (InvalidValue, 0, (("a", True),)), (InvalidValue, 0, (("a", "!"),)), (InvalidValue, 0, (("a", 10 ** 18 + 1),)),
            (InvalidValue, 1, (good, ("b", ()))), (InvalidValue, 0, (("a", []), ("A", 1))), (InvalidKey, 0, (("A", []), ("b", []))),
            (InvalidKey, 1, (good, ("a", [])))]
        for error, at, writes in cases:
            self.told(error, at, need_writes, writes)
            versions = Versions()
            self.told(error, at, versions.add, writes)
            self.same((versions.now, versions.rows()), (0, ()))
        for value in odd_values():
            with self.assertRaises((InvalidKey, InvalidValue)):
                need_writes(value)


class VersionsTest(Case):
    def test_a_new_one(self):
        versions = Versions()
        self.same((versions.now, versions.stamps, versions.since), (0, (), 0))
        self.same((versions.rows(), versions.how_many(), versions.row("a")), ((), 0, ()))
        self.same((versions.read("a", 0), versions.version_at("a", 0), versions.scan(None, None, 0)), (None, None, ()))

    def test_beside_plain_maps(self):
        rng = random.Random(52)
        for _ in range(15):
            versions, maps, rows = Versions(), [{}], {}
            for stamp in range(1, 25):
                writes = random_writes(rng)
                self.same(versions.add(writes), stamp)
                maps.append(behind(maps[-1], writes))
                for key, value in writes:
                    rows.setdefault(key, []).append((stamp, value))
                self.same((versions.now, versions.since, versions.stamps), (stamp, 0, ()))
            self.same(versions.rows(), tuple((key, tuple(rows[key])) for key in sorted(rows)))
            self.same(versions.how_many(), sum(map(len, rows.values())))
            for stamp, plain in enumerate(maps):
                self.assertIs(versions.readable(stamp), True)
                for key in KEYS:
                    self.same(versions.read(key, stamp), plain.get(key))
                    self.same(versions.version_at(key, stamp), seen(tuple(rows.get(key, ())), stamp))
                    self.same(versions.row(key), tuple(rows.get(key, ())))
                for low, high in ((None, None), ("a0", None), (None, "a_"), ("a0", "a0"), ("b", "a")):
                    self.same(versions.scan(low, high, stamp), tuple(
                        (key, plain[key]) for key in sorted(plain)
                        if (low is None or low <= key) and (high is None or key <= high)))

    def test_wrong_arguments_in_their_order(self):
        versions = Versions()
        versions.add((("a", 1),))
        for value in odd_values():
            if not isinstance(value, str) or value == "":
                self.told(InvalidKey, -1, versions.read, value, None)
                self.told(InvalidKey, -1, versions.version_at, value, -1)
                self.told(InvalidKey, -1, versions.row, value)
            if value is not None and not isinstance(value, str):
                self.told(InvalidRange, 0, versions.scan, value, value, None)
                self.told(InvalidRange, 1, versions.scan, None, value, None)
            self.assertIs(versions.readable(value), False)
            self.told(InvalidSize, "stamp", versions.read, "a", value)
            self.told(InvalidSize, "stamp", versions.version_at, "a", value)
            self.told(InvalidSize, "stamp", versions.scan, "b", "a", value)
        self.told(InvalidSize, "stamp", versions.read, "a", 2)
        self.told(InvalidKey, 1, versions.row, "aB")
        self.assertIs(versions.readable(2), False)

    def test_readable_stamps(self):
        versions = versions_from((("a", ((2, 1), (5, None))), ("b", ((9, "x"),))), 9, (0, 3, 6))
        self.same([stamp for stamp in range(12) if versions.readable(stamp)], [0, 3, 6, 9])
        self.told(Refused, "stamp", versions.read, "a", 2)
        self.told(Refused, "stamp", versions.version_at, "a", 8)
        self.told(Refused, "stamp", versions.scan, None, None, 1)
        self.told(InvalidSize, "stamp", versions.read, "a", 10)
        self.told(InvalidKey, 0, versions.read, "A", 2)
        self.told(InvalidRange, 1, versions.scan, None, "", 2)
        self.same([versions.read("a", stamp) for stamp in (0, 3, 6, 9)], [None, 1, None, None])
        versions.add((("a", 7),))
        self.same([stamp for stamp in range(12) if versions.readable(stamp)], [0, 3, 6, 9, 10])
        self.same((versions.now, versions.since, versions.stamps), (10, 9, (0, 3, 6)))

    def test_parameters(self):
        versions = Versions()
        self.same(versions.add(writes=(("a", 1),)), 1)
        self.same(versions.read(key="a", stamp=1), 1)
        self.same(versions.version_at(key="a", stamp=1), (1, 1))
        self.same(versions.scan(low=None, high=None, stamp=1), (("a", 1),))
        self.same(versions.row(key="a"), ((1, 1),))
        self.assertIs(versions.readable(stamp=1), True)


class FromTest(Case):
    def test_what_is_made(self):
        rng = random.Random(53)
        for _ in range(60):
            rows = tuple((key, row) for key, row in ((key, random_row(rng)) for key in KEYS) if row)
            now = max([row[-1][0] for _, row in rows], default=0) + rng.randint(0, 2)
            stamps = tuple(sorted(rng.sample(range(now + 1), rng.randint(0, now))))
            versions = versions_from(rows=rows, now=now, stamps=stamps)
            self.assertIs(type(versions), Versions)
            self.same((versions.rows(), versions.now, versions.since, versions.stamps), (rows, now, now, stamps))
            for stamp in range(now + 1):
                self.assertIs(versions.readable(stamp), stamp in stamps or stamp == now)
            for stamp in stamps + (now,):
                self.same(versions.scan(None, None, stamp), tuple(
                    (key, value_at(row, stamp)) for key, row in rows if value_at(row, stamp) is not None))
            self.same(versions.add((("a", 1),)), now + 1)

    def test_wrong_things_in_their_order(self):
        good = ("a", ((1, 0),))
        for now in odd_values() + [-1, True]:
            if type(now) is not int or now < 0:
                self.told(InvalidSize, "now", versions_from, None, now, None)
        cases = [
            (InvalidKey, -1, None), (InvalidKey, -1, [good]), (InvalidKey, 0, (list(good),)), (InvalidKey, 0, (("a",),)),
            (InvalidKey, 0, (("A", ()),)), (InvalidKey, 0, (("", ()),)), (InvalidKey, 1, (good, good)), (InvalidKey, 1, (good, None)),
            (InvalidKey, 1, (("b", ((1, 0),)), good)), (InvalidKey, 0, (("a", ((1, 0),), 3),)),
            (InvalidValue, 0, (("a", ()),)), (InvalidValue, 0, (("a", [(1, 0)]),)), (InvalidValue, 0, (("a", ([1, 0],)),)),
            (InvalidValue, 0, (("a", ((0, 0),)),)), (InvalidValue, 0, (("a", ((0, 0), (1, 0))),)), (InvalidValue, 0, (("a", ((6, 0),)),)), (InvalidValue, 0, (("a", ((1, 0), (6, 0))),)),
            (InvalidValue, 0, (("a", ((1, 0), (1, 0))),)), (InvalidValue, 0, (("a", ((2, 0), (1, 0))),)),
            (InvalidValue, 0, (("a", ((True, 0),)),)), (InvalidValue, 0, (("a", ((1, True),)),)), (InvalidValue, 0, (("a", ((1, "!"),)),)),
            (InvalidValue, 0, (("a", ((1,),)),)), (InvalidValue, 0, (("a", None),)), (InvalidValue, 1, (good, ("b", ()))),
            (InvalidValue, 0, (("a", ()), ("A", ()))), (InvalidKey, 0, (("A", ()), ("a", ()))), (InvalidValue, 0, (("a", (None,)),)),
            (InvalidValue, 0, (("a", ((None, 0),)),)), (InvalidValue, 0, (("a", ((1, 0, 0),)),))]
        for error, at, rows in cases:
            self.told(error, at, versions_from, rows, 5, None)
        for stamps in ([], [1], (True,), (1, 1), (2, 1), (6,), (-1,), ("1",), None, (1, None), ((),)):
            self.told(InvalidSize, "stamp", versions_from, (good,), 5, stamps)
        for value in odd_values():
            with self.assertRaises((InvalidKey, InvalidValue, InvalidSize)):
                versions_from(value, 5, None)
            if value != ():
                self.told(InvalidSize, "stamp", versions_from, (), 5, value)
        self.same(versions_from((), 0, (0,)).stamps, (0,))
        self.same(versions_from((("a", ((5, None),)),), 5, ()).rows(), (("a", ((5, None),)),))

    def test_things_of_dicts_stay_apart(self):
        versions = versions_from((("a", ((1, 0),)),), 1, ())
        versions.add((("a", 1),))
        self.same(versions_from((("a", ((1, 0),)),), 1, ()).rows(), (("a", ((1, 0),)),))


if __name__ == "__main__":
    unittest.main()
