import random
import unittest

from spelledways.errors import InvalidSize, NoName
from spelledways.snapshots import Snapshots
from tests.common import Case, odd_values


class SnapshotsTest(Case):
    def test_beside_a_plain_dict(self):
        rng = random.Random(61)
        for _ in range(20):
            snapshots, plain, last = Snapshots(), {}, 0
            for _ in range(60):
                if not plain or rng.random() < 0.6:
                    stamp = rng.choice([0, 1, 2, 5, 9, 10 ** 9])
                    last += 1
                    self.same(snapshots.begin(stamp), last)
                    plain[last] = stamp
                else:
                    number = rng.choice(list(plain))
                    self.same(snapshots.stamp_of(number), plain[number])
                    self.same(snapshots.close(number), plain.pop(number))
                    for gone in (number, 0, last + 1, -1):
                        self.told(NoName, gone, snapshots.stamp_of, gone)
                        self.told(NoName, gone, snapshots.close, gone)
                self.same(snapshots.live(), tuple(sorted(set(plain.values()))))
                for stamp in (0, 1, 3, 9, 10 ** 9):
                    self.same(snapshots.holders(stamp), tuple(sorted(n for n in plain if plain[n] == stamp)))
                for low in (0, 1, 3, 9, 10):
                    for high in (0, 2, 5, 8, 9, 10 ** 9):
                        within = [stamp for stamp in plain.values() if low <= stamp <= high]
                        self.same(snapshots.last_within(low, high), max(within) if within else None)

    def test_wrong_stamps_and_numbers(self):
        snapshots = Snapshots()
        self.same(snapshots.begin(0), 1)
        for value in odd_values():
            if value != 10 ** 19:
                self.told(InvalidSize, "stamp", snapshots.begin, value)
            with self.assertRaises(NoName) as held:
                snapshots.close(value)
            self.assertIs(held.exception.name, value)
            with self.assertRaises(NoName) as held:
                snapshots.stamp_of(value)
            self.assertIs(held.exception.name, value)
        self.same(snapshots.begin(0), 2)
        self.same(snapshots.holders(0), (1, 2))

    def test_numbers_are_given_once(self):
        snapshots = Snapshots()
        for number in (1, 2, 3):
            self.same(snapshots.begin(stamp=4), number)
            self.same(snapshots.close(number=number), 4)
        self.same(snapshots.live(), ())
        self.same(snapshots.last_within(first=0, last=9), None)
        self.same(snapshots.holders(stamp=4), ())


if __name__ == "__main__":
    unittest.main()
