"""Snapshots: who looks at which stamp."""

from spelledways.errors import InvalidSize, NoName
from spelledways.plain import is_number


class Snapshots:
    """The numbers of those who look, each with its stamp."""

    def __init__(self):
        self._stamps = {}
        self._last = 0

    def begin(self, stamp):
        """Look at a stamp from now on; return a number that none had before."""
        if not is_number(stamp):
            raise InvalidSize("stamp")
        self._last += 1
        self._stamps[self._last] = stamp
        return self._last

    def stamp_of(self, number):
        """The stamp at which a number looks."""
        # A bool would be found as the integer that is equal to it, and a list can't be looked for.
        if not is_number(number) or number not in self._stamps:
            raise NoName(number)
        return self._stamps[number]

    def close(self, number):
        """End a number; return its stamp."""
        stamp = self.stamp_of(number)
        del self._stamps[number]
        return stamp

    def live(self):
        """The stamps at which somebody looks, ascending."""
        return tuple(sorted(set(list(self._stamps.values()))))

    def holders(self, stamp):
        """The numbers that look at a stamp, ascending."""
        return tuple(sorted([number for number, looked_at in self._stamps.items() if looked_at == stamp]))

    def last_within(self, first, last):
        """The greatest live stamp from a first to a last one, or None."""
        within = [stamp for stamp in self.live() if first <= stamp <= last]
        return within[-1] if within else None
