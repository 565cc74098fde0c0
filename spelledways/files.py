"""Three files of octets, which a cut may leave at any step since they were made sure of."""

from spelledways.errors import InvalidSize
from spelledways.plain import is_number, is_sequence, is_tuple_of

MOST_OCTET = 255
MANY_FILES = 3


def is_octets(value):
    """Whether a value is a tuple of numbers from 0 to 255."""
    return isinstance(value, tuple) and all([is_number(octet) and octet <= MOST_OCTET for octet in value])


def is_disk(value):
    """Whether a value is a tuple of the octets of two images and of the log."""
    return is_tuple_of(value, MANY_FILES) and all([is_octets(octets) for octets in value])


def behind_steps(octets, steps):
    """The octets of a file behind some steps."""
    left = list(octets)
    for step in steps:
        if step < 0:
            del left[-1 - step:]
        else:
            left.append(step)
    return tuple(left)


class Files:
    """The files of a disk: for each what was made sure of, and the steps since.

    A step is the octet that it adds, or, for a shortening to a size, -1 - size."""

    def __init__(self, start):
        self.start = start
        self._sure = list(start)
        self._now = list(start)
        self._steps = [[] for _ in range(MANY_FILES)]

    def add(self, place, octets):
        """Put octets behind a file."""
        self._now[place] = self._now[place] + tuple(octets)
        self._steps[place].extend(octets)

    def keep(self, place, size):
        """Shorten a file to this many octets, if it is longer."""
        if size < len(self._now[place]):
            self._now[place] = self._now[place][:size]
            self._steps[place].append(-1 - size)

    def sync(self, place):
        """Make sure of a file."""
        self._sure[place] = self._now[place]
        self._steps[place] = []

    def octets_of(self, place):
        """The octets of a file."""
        return self._now[place]

    def disk(self):
        """The octets of all files."""
        return tuple(self._now)

    def choices(self):
        """For each file how many beginnings of its steps a cut may leave."""
        return tuple([len(steps) + 1 for steps in self._steps])

    def cut(self, numbers):
        """The disk behind a cut that leaves so many steps of each file."""
        if not is_sequence(numbers) or len(numbers) != MANY_FILES:
            raise InvalidSize("cut")
        for number, many in zip(numbers, self.choices()):
            if not is_number(number) or number >= many:
                raise InvalidSize("cut")
        left = [steps[:number] for steps, number in zip(self._steps, numbers)]
        return tuple([behind_steps(octets, steps) for octets, steps in zip(self._sure, left)])
