"""A journal: a map on a disk, where each write is a record, and images spare the log."""

from spelledways.files import Files
from spelledways.records import get_image, put_image, put_record, records_of
from spelledways.recovery import base_of, mend, recover, written_map

LOG = 2


def run_in(octets):
    """The first and the last stamp of the records of a log, or None."""
    records = records_of(octets)[0]
    return (records[0][0], records[-1][0]) if records else None


def image_stamp(octets):
    """The stamp of an image; 0, as if the map had never been written, for what is none."""
    image = get_image(octets)
    return 0 if image is None else image[0]


def told_stamp(base, run):
    """The stamp that is told behind a cut that leaves a base with a stamp, and a run of records."""
    if run is None or run[1] <= base or run[0] > base + 1:
        return base
    return run[1]


class Journal:
    """The map of a disk, changed by writes. `word` is what the disk told when it was opened."""

    def __init__(self, start):
        self.start = start
        self.stamp, self.entries, self.word = recover(start)
        self._files = Files(start)
        self._drawn = None
        self._drawn_stamp = 0
        # What a cut may leave is looked for again and again: so of each image only the stamps are kept, of the log
        # the runs of its records, since it was made sure of.
        self._image_stamps = [[image_stamp(start[0])], [image_stamp(start[1])]]
        self._runs = [run_in(start[LOG])]
        end = len(mend(start)[LOG])
        if end < len(start[LOG]):
            self._files.keep(LOG, end)
            self._runs.append(self._runs[-1] if end else None)
        if self.word == "broken" or self.word == "gap":
            self.sync()

    def write(self, pairs):
        """Put a record with the next stamp behind the log; return the stamp."""
        stamp = self.stamp + 1
        self._files.add(LOG, put_record(stamp, pairs))
        run = self._runs[-1]
        self._runs.append((stamp if run is None else run[0], stamp))
        self.stamp = stamp
        self.entries = written_map(self.entries, pairs)
        return stamp

    def sync(self):
        """Make sure of the log."""
        self._files.sync(LOG)
        self._runs = self._runs[-1:]

    def draw(self):
        """Draw an image of now in the place of the one that is not the base."""
        octets = put_image(self.stamp, self.entries)
        place = 1 if base_of(self._files.cut((0, 0, 0)))[0] == 0 else 0
        self._files.keep(place, 0)
        self._files.add(place, octets)
        self._image_stamps[place].extend([0, self.stamp])
        self._drawn = place
        self._drawn_stamp = self.stamp

    def settle(self):
        """Make sure of the image that was drawn last; then the log is not needed, unless it was written to."""
        if self._drawn is None:
            return
        self._files.sync(self._drawn)
        self._image_stamps[self._drawn] = [self._drawn_stamp]
        self._drawn = None
        if self.stamp == self._drawn_stamp:
            self._files.keep(LOG, 0)
            self._runs.append(None)

    def image(self):
        """Draw an image, and settle it."""
        self.draw()
        self.settle()

    def sure(self):
        """The least stamp that is told behind any cut now."""
        bases = sorted({max(one, other) for one in self._image_stamps[0] for other in self._image_stamps[1]})
        return min([told_stamp(base, run) for base in bases for run in self._runs])

    def choices(self):
        """For each file how many beginnings of its steps a cut may leave."""
        return self._files.choices()

    def cut(self, numbers):
        """The disk behind a cut that leaves so many steps of each file."""
        return self._files.cut(numbers)

    def disk(self):
        """The octets of all files."""
        return self._files.disk()
