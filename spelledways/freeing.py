"""Versions that nobody can see any more go."""

from spelledways.errors import InvalidSize, Refused
from spelledways.plain import is_number
from spelledways.snapshots import Snapshots
from spelledways.versions import Versions, are_stamps, in_span, spans


def can_be_seen(span, stamps):
    """Whether one of these stamps, or a later one than all versions, sees the version with this span."""
    return span[1] is None or any([in_span(span, stamp) for stamp in stamps])


def kept(row, stamps):
    """The row of those versions that have to stay for these stamps."""
    staying = []
    for version, span in zip(row, spans(row)):
        # An erasing version with nothing older ahead of it tells what no version at all tells, too.
        if can_be_seen(span, stamps) and (version[1] is not None or staying):
            staying.append(version)
    return tuple(staying)


def gone(rows, stamps):
    """The pairs of a key and a version of these rows that need not stay for these stamps, ascending."""
    going = []
    for key, row in rows:
        staying = kept(row, stamps)
        going.extend([(key, version) for version in row if version not in staying])
    return tuple(going)


def free(versions, stamps):
    """Leave of each row just what has to stay for these stamps; return what goes."""
    if not are_stamps(stamps, versions.now):
        raise InvalidSize("stamp")
    for stamp in stamps:
        if not versions.readable(stamp):
            raise Refused("stamp")
    rows = versions.rows()
    versions.keep_rows([(key, kept(row, stamps)) for key, row in rows], stamps)
    return gone(rows, stamps)


class Keeper:
    """Versions, and the snapshots for which they are kept; never a version too much."""

    def __init__(self):
        self.versions = Versions()
        self.snapshots = Snapshots()

    def begin(self, stamp=None):
        """Open a snapshot at a live stamp, or now; return its number."""
        if stamp is None:
            stamp = self.versions.now
        if not is_number(stamp):
            raise InvalidSize("stamp")
        if stamp != self.versions.now and stamp not in self.snapshots.live():
            raise Refused("stamp")
        number = self.snapshots.begin(stamp)
        self._free()
        return number

    def commit(self, writes):
        """Add versions; return their stamp, and what goes."""
        stamp = self.versions.add(writes)
        return stamp, self._free()

    def close(self, number):
        """End a snapshot; return what goes."""
        self.snapshots.close(number)
        return self._free()

    def read(self, number, key):
        """The value of a key at the stamp of a snapshot, or None."""
        stamp = self.snapshots.stamp_of(number)
        return self.versions.read(key, stamp)

    def scan(self, number, low, high):
        """The entries in a range at the stamp of a snapshot."""
        stamp = self.snapshots.stamp_of(number)
        return self.versions.scan(low, high, stamp)

    def _free(self):
        return free(self.versions, self.snapshots.live())


def holds(keeper, stamp):
    """The pairs of a key and a version that is not the last one, held by a stamp, ascending."""
    held = []
    for key, row in keeper.versions.rows():
        for version, span in list(zip(row, spans(row)))[:-1]:
            if keeper.snapshots.last_within(span[0], span[1]) == stamp:
                held.append((key, version))
    return tuple(held)


def costs(keeper, stamp):
    """The pairs of a key and a version that would go if all snapshots of a stamp were closed, ascending."""
    live = keeper.snapshots.live()
    return gone(keeper.versions.rows(), [other for other in live if other != stamp])
