"""Rows of versions by keys: what stood at each stamp that can be read."""

from spelledways.errors import InvalidKey, InvalidSize, InvalidValue, Refused
from spelledways.keys import in_range, is_key, is_value, need_key, need_range
from spelledways.plain import is_number, is_tuple_of


def seen(row, stamp):
    """The last version of a row with a stamp up to a given one, or None."""
    found = None
    for version in row:
        if version[0] <= stamp:
            found = version
    return found


def value_at(row, stamp):
    """The value of the version seen, or None."""
    version = seen(row, stamp)
    return None if version is None else version[1]


def spans(row):
    """For each version the first and the last stamp that see it; None as the last of the last version."""
    lasts = [version[0] - 1 for version in row[1:]] + [None]
    return tuple([(version[0], last) for version, last in zip(row, lasts)])


def in_span(span, stamp):
    """Whether a stamp lies in a span."""
    return span[0] <= stamp and (span[1] is None or stamp <= span[1])


def is_value_or_none(value):
    """Whether a value may stand in a version."""
    return value is None or is_value(value)


def is_keyed_pair(value, at):
    """Whether the thing with a number is a pair whose key is behind that of the pair ahead."""
    if not is_tuple_of(value[at], 2) or not is_key(value[at][0]):
        return False
    return at == 0 or value[at - 1][0] < value[at][0]


def need_writes(value):
    """Raise InvalidKey or InvalidValue unless a value is writes: at least one, with ascending keys."""
    if not isinstance(value, tuple) or not value:
        raise InvalidKey(-1)
    for at, pair in enumerate(value):
        if not is_keyed_pair(value, at):
            raise InvalidKey(at)
        if not is_value_or_none(pair[1]):
            raise InvalidValue(at)


def are_stamps(value, now):
    """Whether a value is an ascending tuple of unlike stamps up to `now`."""
    if not isinstance(value, tuple):
        return False
    for at, stamp in enumerate(value):
        if not is_number(stamp) or stamp > now or (at > 0 and stamp <= value[at - 1]):
            return False
    return True


def is_full_row(value, now):
    """Whether a value is a row that is not empty, with stamps up to `now`."""
    if not isinstance(value, tuple) or not value:
        return False
    for version in value:
        if not is_tuple_of(version, 2) or not is_value_or_none(version[1]):
            return False
    stamps = tuple([version[0] for version in value])
    return are_stamps(stamps, now) and stamps[0] >= 1


def need_rows(value, now):
    """Raise InvalidKey or InvalidValue unless a value is pairs of ascending keys and rows up to `now`."""
    if not isinstance(value, tuple):
        raise InvalidKey(-1)
    for at, pair in enumerate(value):
        if not is_keyed_pair(value, at):
            raise InvalidKey(at)
        if not is_full_row(pair[1], now):
            raise InvalidValue(at)


class Versions:
    """Rows by keys. `now` is the greatest stamp; `stamps`, and those from `since` to `now`, can be read."""

    def __init__(self):
        self.now = 0
        self.stamps = ()
        self.since = 0
        self._rows = {}

    def how_many(self):
        """The number of versions."""
        return sum([len(row) for row in self._rows.values()])

    def add(self, writes):
        """Give each key of the writes a version with the next stamp; return the stamp."""
        need_writes(writes)
        self.now += 1
        for key, value in writes:
            self._rows[key] = self._rows.get(key, ()) + ((self.now, value),)
        return self.now

    def row(self, key):
        """The row of a key."""
        need_key(key)
        return self._rows.get(key, ())

    def rows(self):
        """All pairs of a key and its row that is not empty, ascending."""
        return tuple([(key, self._rows[key]) for key in sorted(self._rows)])

    def readable(self, stamp):
        """Whether a value is a stamp that can be read."""
        return is_number(stamp) and (stamp in self.stamps or self.since <= stamp <= self.now)

    def version_at(self, key, stamp):
        """The version of a key seen by a stamp, or None."""
        need_key(key)
        self._need_readable(stamp)
        return seen(self._rows.get(key, ()), stamp)

    def read(self, key, stamp):
        """The value of a key at a stamp, or None."""
        version = self.version_at(key, stamp)
        return None if version is None else version[1]

    def scan(self, low, high, stamp):
        """The entries in a range at a stamp, ascending."""
        need_range((low, high))
        self._need_readable(stamp)
        keys = [key for key in sorted(self._rows) if in_range((low, high), key)]
        entries = [(key, value_at(self._rows[key], stamp)) for key in keys]
        return tuple([entry for entry in entries if entry[1] is not None])

    def keep_rows(self, rows, stamps):
        """Have just these rows, for readers at these stamps and from now on."""
        # This is for `free` and `versions_from`, which have looked over what they hand in.
        self._rows = {key: row for key, row in rows if row}
        self.stamps = stamps
        self.since = self.now

    def _need_readable(self, stamp):
        if not is_number(stamp) or stamp > self.now:
            raise InvalidSize("stamp")
        if not self.readable(stamp):
            raise Refused("stamp")


def versions_from(rows, now, stamps):
    """A Versions with such rows, such a `now`, and these stamps."""
    if not is_number(now):
        raise InvalidSize("now")
    need_rows(rows, now)
    if not are_stamps(stamps, now):
        raise InvalidSize("stamp")
    versions = Versions()
    versions.now = now
    versions.keep_rows(rows, stamps)
    return versions
