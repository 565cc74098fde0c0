import random
import time

from spelledways.errors import InvalidSize
from spelledways.keys import map_of
from spelledways.log import Journal
from spelledways.records import get_image, put_image, put_record, records_of
from spelledways.recovery import base_of, mend, recover
from tests.common import Case
from tests.test_records import random_map, random_writes, together
from tests.test_recovery import random_disk

EMPTY = ((), (), ())


def unlike_images(cut, many, place):
    """One cut number of an image's file for each image that a cut may leave there, and for none."""
    found = {}
    for number in range(many[place]):
        numbers = [0, 0, 0]
        numbers[place] = number
        found.setdefault(repr(get_image(cut(numbers)[place])), number)
    return list(found.values())


def all_told(thing):
    """What `recover` tells behind all cuts: of the images' cuts those that leave unlike images stand for all."""
    many = thing.choices()
    found = {}
    logs = {}
    for number in range(many[2]):
        # Of logs with the same records, cut alike, one stands for all; broken ones are all looked at.
        octets = thing.cut((0, 0, number))[2]
        records, end, word = records_of(octets)
        logs.setdefault((records, word), number)
    for one in unlike_images(thing.cut, many, 0):
        for other in unlike_images(thing.cut, many, 1):
            for number in logs.values():
                stamp, entries, word = recover(thing.cut((one, other, number)))
                found.setdefault((stamp, entries, word), (one, other, number))
    return found


def written(entries, writes):
    return map_of(entries + writes)


class JournalTest(Case):
    def look_at(self, journal, maps):
        """All there; and behind each cut just what the journal had at some stamp from `sure()` on."""
        self.same(recover(journal.disk()), (journal.stamp, journal.entries, "whole"))
        self.same(journal.entries, maps[journal.stamp])
        told = all_told(journal)
        for stamp, entries, word in told:
            self.assertIn(word, ("whole", "cut"))
            self.same(entries, maps[stamp])
        self.same(sorted({stamp for stamp, _, _ in told}), list(range(journal.sure(), journal.stamp + 1)))
        return told

    def deed(self, rng, journal, maps):
        """Some deed; return what has to be sure behind it."""
        choice = rng.random()
        if choice < 0.5:
            writes = random_writes(rng)
            maps[journal.stamp + 1] = written(maps[journal.stamp], writes)
            self.same(journal.write(writes), max(maps))
        elif choice < 0.62:
            self.assertIsNone(journal.sync())
            return journal.stamp
        elif choice < 0.78:
            self.assertIsNone(journal.draw())
            self.drawn = journal.stamp
        elif choice < 0.92:
            self.assertIsNone(journal.settle())
            sure, self.drawn = self.drawn, 0
            return sure
        else:
            self.assertIsNone(journal.image())
            self.drawn = 0
            return journal.stamp
        return 0

    def run_of(self, rng, start, deeds):
        """Rows of deeds, cuts and openings; the journal goes on from what each cut leaves."""
        journal = Journal(start)
        maps = {journal.stamp: journal.entries}
        self.drawn = 0
        sure = journal.sure()
        self.same(sure, journal.stamp)
        for _ in range(deeds):
            told = self.look_at(journal, maps)
            self.assertGreaterEqual(journal.sure(), sure)
            sure = journal.sure()
            if rng.random() < 0.2:
                numbers = rng.choice(list(told.values()))
                if rng.random() < 0.5:
                    numbers = tuple(rng.randrange(many) for many in journal.choices())
                disk = journal.cut(numbers)
                stamp, entries, word = recover(disk)
                journal = Journal(disk)
                self.same((journal.stamp, journal.entries, journal.word), (stamp, entries, word))
                self.same(entries, maps[stamp])
                maps = {at: maps[at] for at in maps if at <= stamp}
                self.drawn, sure = 0, stamp
                # Nothing that the opening does leaves anything else behind a cut.
                self.same(list({row[:2] for row in all_told(journal)}), [(stamp, entries)])
                continue
            made_sure = self.deed(rng, journal, maps)
            self.assertGreaterEqual(journal.sure(), made_sure)

    def test_rows_of_deeds_cuts_and_openings(self):
        rng = random.Random(231)
        for _ in range(40):
            self.run_of(rng, EMPTY, 25)

    def test_whatever_disk_was_opened(self):
        rng = random.Random(232)
        words = set()
        for _ in range(150):
            disk = random_disk(rng)
            words.add(recover(disk)[2])
            self.run_of(rng, disk, 6)
        self.assertEqual(words, {"whole", "cut", "broken", "gap"})

    def test_the_opening_of_a_disk(self):
        rng = random.Random(233)
        for _ in range(300):
            disk = random_disk(rng)
            journal = Journal(start=disk)
            self.assertIs(journal.start, disk)
            self.same((journal.stamp, journal.entries, journal.word), recover(disk))
            self.same(journal.disk(), mend(disk))
            shortened = mend(disk) != disk
            if journal.word in ("broken", "gap"):
                self.assertTrue(shortened)
                self.same((journal.choices(), journal.cut((0, 0, 0))), ((1, 1, 1), mend(disk)))
            else:
                self.same(journal.choices(), (1, 1, 2 if shortened else 1))
                self.same(journal.cut((0, 0, 0)), disk)

    def test_damage(self):
        rng = random.Random(234)
        for _ in range(30):
            journal = Journal(EMPTY)
            maps = {0: ()}
            self.drawn = 0
            for _ in range(8):
                self.deed(rng, journal, maps)
            disk = journal.disk()
            for place in range(3):
                for at in range(len(disk[place])):
                    octets = disk[place][:at] + ((disk[place][at] + rng.randint(1, 255)) % 256,) + disk[place][at + 1:]
                    bent = disk[:place] + (octets,) + disk[place + 1:]
                    if place < 2:
                        self.same(get_image(octets), None)
                        self.assertNotEqual(base_of(bent)[0], place)
                    else:
                        ahead = [row for row in self.record_ends(disk[2]) if row[1] <= at]
                        self.same(records_of(octets), (tuple(row[0] for row in ahead), ahead[-1][1] if ahead else 0, "broken"))

    def record_ends(self, log):
        rows, at = [], 0
        for record in records_of(log)[0]:
            at += len(put_record(*record))
            rows.append((record, at))
        return rows


class DeedsTest(Case):
    def test_the_example(self):
        journal = Journal(EMPTY)
        self.same((journal.write((("a", 1),)), journal.write((("a", None), ("b", "x")))), (1, 2))
        self.same((journal.choices(), journal.sure()), ((1, 1, 33), 0))
        self.same([recover(journal.cut((0, 0, steps)))[:2] for steps in (0, 13, 14, 32)],
                  [(0, ()), (0, ()), (1, (("a", 1),)), (2, (("b", "x"),))])
        self.same((journal.image(), journal.write(pairs=(("c", 0),)), journal.sure(), journal.stamp), (None, 3, 2, 3))
        self.same((recover(journal.cut((0, 0, 0))), [len(octets) for octets in journal.disk()]),
                  ((2, (("b", "x"),), "whole"), [15, 0, 14]))

    def test_an_image_that_is_not_settled(self):
        journal = Journal(EMPTY)
        journal.write((("a", 1),))
        journal.draw()
        self.same((journal.sure(), journal.disk()[0]), (0, put_image(1, (("a", 1),))))
        journal.write((("b", 1),))
        journal.settle()
        # It was written to in between: the log stays.
        self.same((journal.sure(), len(records_of(journal.disk()[2])[0])), (1, 2))
        journal.settle()
        self.same(journal.sure(), 1)

    def test_drawn_twice(self):
        journal = Journal(EMPTY)
        journal.write((("a", 1),))
        journal.draw()
        journal.write((("a", 2),))
        journal.draw()
        self.same(journal.disk()[:2], (put_image(2, (("a", 2),)), ()))
        self.same(sorted({row[0] for row in all_told(journal)}), [0, 1, 2])
        journal.settle()
        self.same((journal.disk(), journal.sure()), ((put_image(2, (("a", 2),)), (), ()), 2))
        journal.draw()
        self.same(journal.disk()[1], put_image(2, (("a", 2),)))
        self.same(journal.cut((0, 0, 0))[1], ())

    def test_what_settle_and_sync_make_sure_of(self):
        journal = Journal(EMPTY)
        journal.settle()
        self.same(journal.choices(), (1, 1, 1))
        for value in (1, 2):
            journal.write((("a", value),))
        journal.draw()
        self.same(journal.choices()[0], len(put_image(2, (("a", 2),))) + 1)
        journal.settle()
        many = len(put_record(1, (("a", 1),))) * 2
        # The log was shortened to nothing, but that is not made sure of.
        self.same((journal.choices(), journal.disk()[2], len(journal.cut((0, 0, many))[2])), ((1, 1, many + 2), (), many))
        journal.sync()
        self.same(journal.choices(), (1, 1, 1))

    def test_an_image_takes_the_place_that_is_not_the_base(self):
        one, two = put_image(3, (("a", 1),)), put_image(4, (("b", 1),))
        for start, place in (((one, two, ()), 0), ((two, one, ()), 1), (((), one, ()), 0), ((one, (), ()), 1), (EMPTY, 0),
                             ((one[:-1], two, ()), 0), ((one, two[:-1], ()), 1), ((one, one, ()), 1)):
            journal = Journal(start)
            journal.image()
            self.same(journal.disk()[place], put_image(journal.stamp, journal.entries))
            self.same(journal.disk()[1 - place], start[1 - place])

    def test_a_log_behind_an_image_wholly(self):
        log = together([put_record(stamp, (("a", stamp),)) for stamp in (1, 2, 3)])
        journal = Journal((put_image(7, (("b", 1),)), (), log))
        self.same((journal.stamp, journal.entries, journal.word), (7, (("b", 1),), "whole"))
        self.same((journal.disk()[2], journal.choices(), journal.sure()), ((), (1, 1, 2), 7))
        journal.write((("c", 1),))
        self.same(sorted({row[:2] for row in all_told(journal)}), [(7, (("b", 1),)), (8, (("b", 1), ("c", 1)))])

    def test_too_long(self):
        journal = Journal(EMPTY)
        writes = [tuple((f"{sign}{at:05d}", "x" * 32) for at in range(900)) for sign in "ab"]
        journal.write(writes[0])
        ahead = (journal.disk(), journal.choices(), journal.stamp, journal.entries, journal.sure())
        self.told(InvalidSize, "body", journal.write, writes[0] + writes[1])
        self.same((journal.disk(), journal.choices(), journal.stamp, journal.entries, journal.sure()), ahead)
        journal.write(writes[1])
        ahead = (journal.disk(), journal.choices(), journal.stamp, journal.entries, journal.sure())
        self.told(InvalidSize, "body", journal.draw)
        self.told(InvalidSize, "body", journal.image)
        journal.settle()
        self.same((journal.disk(), journal.choices(), journal.stamp, journal.entries, journal.sure()), ahead)

    def test_wrong_cuts(self):
        journal = Journal(EMPTY)
        for numbers in (None, (0, 0), (0, 0, 1), (True, 0, 0), [0, 0, -1], "000"):
            self.told(InvalidSize, "cut", journal.cut, numbers)
        self.same(journal.cut(numbers=[0, 0, 0]), EMPTY)

    def test_the_greatest_in_good_time(self):
        started = time.time()
        journal = Journal(EMPTY)
        entries = tuple((f"k{at:03d}", "x" * 32) for at in range(120))
        journal.write(entries)
        for at in range(30):
            journal.write((("a", at),))
            journal.draw()
            if at % 10 == 9:
                journal.settle()
            self.assertLessEqual(journal.sure(), journal.stamp)
        self.assertEqual(journal.sure(), 31)
        self.assertLess(time.time() - started, 5)
