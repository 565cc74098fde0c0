"""A journal: a map on a disk, where each write is a record, and images spare the log."""

from spelledways.files import Files
from spelledways.records import put_image, put_record
from spelledways.recovery import base_of, mend, recover, written_map

LOG = 2


class Journal:
    """The map of a disk, changed by writes. `word` is what the disk told when it was opened."""

    def __init__(self, start):
        self.start = start
        self.stamp, self.entries, self.word = recover(start)
        self._files = Files(start)
        # The place and the stamp of the image that is drawn and not settled.
        self._drawn = None
        # The opening shortens at most what is not told: so each cut tells the same, until something is written.
        self._sure = self.stamp
        self._files.keep(LOG, len(mend(start)[LOG]))
        if self.word == "broken" or self.word == "gap":
            self._files.sync(LOG)

    def write(self, pairs):
        """Put a record with the next stamp behind the log; return the stamp."""
        stamp = self.stamp + 1
        self._files.add(LOG, put_record(stamp, pairs))
        self.stamp = stamp
        self.entries = written_map(self.entries, pairs)
        return stamp

    def sync(self):
        """Make sure of the log."""
        self._files.sync(LOG)
        self._sure = self.stamp

    def draw(self):
        """Draw an image of now in the place of the one that is not the base."""
        octets = put_image(self.stamp, self.entries)
        place = 1 if base_of(self._files.cut((0, 0, 0)))[0] == 0 else 0
        self._files.keep(place, 0)
        self._files.add(place, octets)
        self._drawn = (place, self.stamp)

    def settle(self):
        """Make sure of the image that was drawn last; then the log is not needed, unless it was written to."""
        if self._drawn is None:
            return
        place, stamp = self._drawn
        self._drawn = None
        self._files.sync(place)
        self._sure = max(self._sure, stamp)
        if self.stamp == stamp:
            self._files.keep(LOG, 0)

    def drawn(self):
        """The stamp at which an image was drawn that is not settled, or None."""
        return None if self._drawn is None else self._drawn[1]

    def image(self):
        """Draw an image, and settle it."""
        self.draw()
        self.settle()

    def sure(self):
        """The least stamp that is told behind any cut now."""
        # An image that is not settled stands in the place of one that is not the base: whatever a cut leaves of it, it
        # never lowers what is told. So only what was made sure of counts.
        return self._sure

    def choices(self):
        """For each file how many beginnings of its steps a cut may leave."""
        return self._files.choices()

    def cut(self, numbers):
        """The disk behind a cut that leaves so many steps of each file."""
        return self._files.cut(numbers)

    def disk(self):
        """The octets of all files."""
        return self._files.disk()
