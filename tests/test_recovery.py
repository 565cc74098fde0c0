import random
import time

from spelledways.keys import map_of
from spelledways.records import put_image, put_record
from spelledways.recovery import base_of, mend, recover
from spelledways.sums import put_frame, read_frames
from tests.common import Case
from tests.test_records import RecordsTest, plain_record, plain_records, random_log, random_map, random_writes, together


def plain_image(octets):
    """A frame is an image if its record erases nothing, and nothing else is there."""
    bodies, _, word = read_frames(octets)
    row = plain_record(bodies[0]) if len(bodies) == 1 and word == "whole" else None
    return None if row is None or None in [value for _, value in row[1]] else row


def plain_recover(disk):
    """Base, stamp, map, word and what counts, read once more and put into a dict."""
    images = [plain_image(octets) for octets in disk[:2]]
    place = max([at for at in (0, 1) if images[at]], key=lambda at: (images[at][0], -at), default=None)
    stamp, entries = (0, ()) if place is None else images[place]
    table = dict(entries)
    rows, _, word = plain_records(disk[2])
    rows = [row for row in rows if row[0] > stamp]
    if rows and rows[0][0] > stamp + 1:
        rows, word = [], "gap"
    base = (place, stamp, entries)
    for number, writes in rows:
        stamp = number
        table.update(writes)
    left = tuple(sorted((key, table[key]) for key in table if table[key] is not None))
    return base, (stamp, left, word), len(rows)


def random_disk(rng):
    """Some disk: images and a log that may follow one another or not, bent or not."""
    images = []
    for _ in range(2):
        octets = rng.choice([(), put_image(rng.randint(0, 5), random_map(rng)), put_image(rng.randint(0, 5), random_map(rng))])
        if rng.random() < 0.25 and octets:
            at = rng.randrange(len(octets))
            octets = rng.choice([octets[:at], octets[:at] + octets[at + 1:], octets + (7,), octets[:at] + (octets[at] ^ 1,) + octets[at + 1:]])
        images.append(octets)
    rows, frames = random_log(rng, rng.randint(0, 6), rng.randint(0, 4))
    log = together(frames) if rng.random() < 0.5 else RecordsTest().bent(rng, rows, frames)
    return images[0], images[1], log


class RecoveryTest(Case):
    def test_beside_a_plain_reading(self):
        rng = random.Random(171)
        seen = set()
        for _ in range(1200):
            disk = random_disk(rng)
            base, told, counting = plain_recover(disk)
            self.same(base_of(disk), base)
            self.same(recover(disk), told)
            whole = mend(disk)
            end = plain_records(disk[2])[1] if counting else 0
            self.same(whole, (disk[0], disk[1], disk[2][:end]))
            self.same(recover(whole), told[:2] + ("whole",))
            self.same(mend(whole), whole)
            seen.add((told[2], counting > 0, base[0]))
        for word in ("whole", "cut", "broken"):
            for counts in (True, False):
                self.assertTrue({(word, counts, place) for place in (None, 0, 1)} <= seen)
        self.assertTrue({("gap", False, place) for place in (None, 0, 1)} <= seen)

    def test_no_image_and_two(self):
        one, two = put_image(3, (("a", 1),)), put_image(3, (("b", 2),))
        self.same(base_of(disk=((), (), ())), (None, 0, ()))
        self.same(recover(disk=((), (), ())), (0, (), "whole"))
        self.same(mend(disk=((), (), ())), ((), (), ()))
        self.same(base_of((one, two, ())), (0, 3, (("a", 1),)))
        self.same(base_of((two, one, ())), (0, 3, (("b", 2),)))
        self.same(base_of(((), one, ())), (1, 3, (("a", 1),)))
        self.same(base_of((one, put_image(4, ()), ())), (1, 4, ()))
        self.same(base_of((one[:-1], two + (0,), ())), (None, 0, ()))
        self.same(base_of((put_image(0, (("a", 1),)), (), ())), (0, 0, (("a", 1),)))
        self.same(base_of((put_image(0, ()), put_image(0, (("a", 1),)), ())), (0, 0, ()))

    def test_gaps_and_logs_behind(self):
        rows = [put_record(stamp, (("a", stamp),)) for stamp in range(7)]
        image = put_image(3, (("b", 1),))
        self.same(recover((image, (), together(rows[5:7]))), (3, (("b", 1),), "gap"))
        self.same(mend((image, (), together(rows[5:7]))), (image, (), ()))
        self.same(recover(((), (), together(rows[2:4]))), (0, (), "gap"))
        self.same(recover((image, (), together(rows[4:6]))), (5, (("a", 5), ("b", 1)), "whole"))
        self.same(recover((image, (), together(rows[1:6]))), (5, (("a", 5), ("b", 1)), "whole"))
        self.same(mend((image, (), together(rows[1:6]) + (0,))), (image, (), together(rows[1:6])))
        self.same(recover((image, (), together(rows[1:4]) + (0,))), (3, (("b", 1),), "cut"))
        self.same(mend((image, (), together(rows[1:4]))), (image, (), ()))
        self.same(recover((image, (), together(rows[1:4]) + rows[5])), (3, (("b", 1),), "broken"))
        self.same(recover((image, (), together(rows[5:7]) + (1, 2, 3, 4))), (3, (("b", 1),), "gap"))
        self.same(recover(((), (), rows[0])), (0, (), "whole"))
        self.same(mend(((), (), rows[0])), ((), (), ()))
        self.same(recover(((), (), rows[0] + rows[1])), (1, (("a", 1),), "whole"))
        self.same(recover(((), (), rows[1] + put_frame((2, 0)))), (2, (("a", 1),), "whole"))

    def test_writes_are_put_in_one_after_the_other(self):
        rng = random.Random(172)
        for _ in range(60):
            entries = random_map(rng)
            many = [random_writes(rng) for _ in range(rng.randint(0, 5))]
            log = together([put_record(9 + at, writes) for at, writes in enumerate(many)])
            wanted = map_of(entries + tuple(pair for writes in many for pair in writes))
            self.same(recover((put_image(8, entries), (), log)), (8 + len(many), wanted, "whole"))

    def test_the_greatest_in_good_time(self):
        started = time.time()
        entries = tuple((f"k{at:03d}", "x" * 32) for at in range(120))
        log = together([put_record(1 + at, entries[:60]) for at in range(2)] + [put_record(3 + at, (("a", at),)) for at in range(60)])
        disk = (put_image(0, entries), put_image(1, entries), log)
        self.same(recover(disk)[0], 62)
        self.same(mend(disk), disk)
        self.assertLess(time.time() - started, 2)
