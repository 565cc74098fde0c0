import random
import time

from spelledways.bytesform import put_entries, put_number, put_writes, read_whole
from spelledways.errors import InvalidOctets, InvalidSize, Refused
from spelledways.keys import map_of
from spelledways.records import get_image, put_image, put_record, records_of
from spelledways.sums import get_frame, put_frame
from tests.common import Case

KEYS = ["a", "a_1", "b", "k" * 16]
VALUES = [0, 1, -5, 10 ** 18, "", "x y", "Z" * 32]


def random_writes(rng, most=3):
    """Pairs of ascending keys and values, at least one."""
    keys = sorted(rng.sample(KEYS, rng.randint(1, most)))
    return tuple((key, rng.choice(VALUES + [None, None])) for key in keys)


def random_map(rng):
    return map_of([(key, value) for key, value in random_writes(rng, 4)])


def random_log(rng, first, many):
    """The writes and the octets of so many records whose stamps begin with a first one."""
    rows = [(first + at, random_writes(rng)) for at in range(many)]
    return rows, [put_record(stamp, writes) for stamp, writes in rows]


def together(frames):
    return tuple(octet for frame in frames for octet in frame)


def plain_records(octets):
    """Records read frame by frame: each one is looked for among all that could be put there."""
    rows, at = [], 0
    while at < len(octets):
        try:
            body, behind = get_frame(octets, at)
        except Refused as refusal:
            return tuple(rows), at, refusal.word
        row = plain_record(body)
        if row is None or (rows and row[0] != rows[-1][0] + 1):
            return tuple(rows), at, "broken"
        rows.append(row)
        at = behind
    return tuple(rows), at, "whole"


def plain_record(body):
    for at in range(1, len(body) + 1):
        try:
            return read_whole("number", body[:at]), read_whole("writes", body[at:])
        except InvalidOctets:
            pass
    return None


class RecordsTest(Case):
    def test_what_is_put(self):
        writes = (("a", 1), ("b", None))
        self.same(put_record(stamp=300, writes=writes), put_frame((172, 2) + put_writes(writes)))
        self.same(put_image(stamp=7, entries=(("a", "x"),)), put_frame((7,) + put_entries((("a", "x"),))))
        self.same(put_record(1, (("a", 1),)), put_frame((1, 1, 97, 0, 1, 2)))
        self.same(len(put_record(1, (("a", 1),))), 14)
        self.same(put_image(0, ()), put_frame((0, 0)))

    def test_too_long(self):
        writes = tuple((f"k{at:05d}", "x" * 32) for at in range(1700))
        self.told(InvalidSize, "body", put_record, 1, writes)
        self.told(InvalidSize, "body", put_image, 1, writes)
        fit = writes[:1500]
        self.same(get_image(put_image(5, fit)), (5, fit))

    def test_beside_a_plain_reading(self):
        rng = random.Random(161)
        words = set()
        for _ in range(300):
            rows, frames = random_log(rng, rng.choice([0, 1, 5, 127, 128]), rng.randint(0, 4))
            octets = together(frames)
            self.same(records_of(octets), (tuple(rows), len(octets), "whole"))
            bent = self.bent(rng, rows, frames)
            told = records_of(octets=bent)
            self.same(told, plain_records(bent))
            words.add(told[2])
        self.assertEqual(words, {"whole", "cut", "broken"})

    def bent(self, rng, rows, frames):
        """Octets that are not just what was put."""
        octets = together(frames)
        choice = rng.randrange(7)
        if choice == 0:
            return octets[:rng.randint(0, len(octets))]
        if choice == 1 and octets:
            at = rng.randrange(len(octets))
            return octets[:at] + ((octets[at] + rng.randint(1, 255)) % 256,) + octets[at + 1:]
        if choice == 2:
            return octets + put_frame(rng.choice([(), (5,), (0,), (1, 1, 97, 0), (1, 0, 0), (128, 0, 0)]))
        if choice == 3 and frames:
            frames = frames[:]
            frames.pop(rng.randrange(len(frames)))
            return together(frames)
        if choice == 4:
            return octets + put_record(rng.randint(0, 6), random_writes(rng))
        if choice == 5:
            return octets + put_image(rows[-1][0] + 1 if rows else 3, random_map(rng))
        return octets + (0, 0, 255)

    def test_edges(self):
        one, two, four = put_record(1, (("a", 1),)), put_record(2, (("a", None),)), put_record(4, (("a", 2),))
        self.same(records_of(()), ((), 0, "whole"))
        self.same(records_of(two), (((2, (("a", None),)),), 13, "whole"))
        self.same(records_of(one + four), (((1, (("a", 1),)),), 14, "broken"))
        self.same(records_of(one + one)[1:], (14, "broken"))
        self.same(records_of(two + one)[1:], (13, "broken"))
        self.same(records_of(one + two[:-1])[1:], (14, "cut"))
        self.same(records_of(one + put_frame(()) + two)[1:], (14, "broken"))
        self.same(records_of(put_frame((1,))), ((), 0, "broken"))
        self.same(records_of(put_frame((2, 0))), (((2, ()),), 10, "whole"))
        self.same(records_of(put_frame((2, 0, 0))), ((), 0, "broken"))
        self.same(records_of(put_frame(put_number(2) + (2, 98, 0, 0, 97, 0, 0))), ((), 0, "broken"))
        self.same(records_of(put_image(3, (("a", 1),))), (((3, (("a", 1),)),), 14, "whole"))


class ImagesTest(Case):
    def test_images(self):
        rng = random.Random(162)
        for _ in range(150):
            stamp, entries = rng.choice([0, 1, 300, 10 ** 9]), random_map(rng)
            octets = put_image(stamp, entries)
            self.same(get_image(octets=octets), (stamp, entries))
            at = rng.randrange(len(octets))
            self.same(get_image(octets[:at] + ((octets[at] + rng.randint(1, 255)) % 256,) + octets[at + 1:]), None)
            self.same(get_image(octets[:at] + octets[at + 1:]), None)
            self.same(get_image(octets[:at]), None)
            self.same(get_image(octets + (rng.randrange(256),)), None)
            self.same(get_image(octets + octets), None)

    def test_edges(self):
        self.same(get_image(()), None)
        self.same(get_image(put_frame(())), None)
        self.same(get_image(put_frame((5,))), None)
        self.same(get_image(put_frame((5, 0))), (5, ()))
        self.same(get_image(put_frame((5, 0, 0))), None)
        self.same(get_image(put_frame((5, 1, 97, 0, 0))), None)
        self.same(get_image(put_record(5, (("a", None),))), None)
        self.same(get_image(put_record(5, (("a", 3),))), (5, (("a", 3),)))
        self.same(get_image(put_image(1, ()) + (0,)), None)
        self.same(get_image(put_frame((5, 2, 98, 0, 1, 0, 97, 0, 1, 0))), None)

    def test_the_greatest_in_good_time(self):
        started = time.time()
        entries = tuple((f"k{at:03d}", "x" * 32) for at in range(120))
        octets = put_image(10 ** 9, entries)
        self.same(get_image(octets), (10 ** 9, entries))
        log = together([put_record(10 ** 9 + at, entries[:1]) for at in range(100)])
        self.assertEqual((len(records_of(log)[0]), records_of(log)[2]), (100, "whole"))
        self.assertLess(time.time() - started, 2)
