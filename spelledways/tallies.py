"""Ways of moves to goals, counted by their length and numbered: of words in a machine, and of walks between places.

Moves are a dict that has for each place the list of pairs of a label and the place behind it, by ascending labels;
of one place all labels are unlike."""


class Ways:
    """The ways to some goals. Those of one length from one place are ordered by their labels, and numbered from 0."""

    def __init__(self, moves, goals):
        self._moves = moves
        # For each length a dict of how many ways there are from a place; told as far as they were asked for.
        self._levels = [{goal: 1 for goal in goals}]

    def many_from(self, place, length):
        """How many ways of a length lead from a place to a goal."""
        while len(self._levels) <= length:
            self._levels.append(self._longer())
        return self._levels[length].get(place, 0)

    def labels_at(self, place, length, number):
        """The labels of the way with a number, of those of a length from a place."""
        labels = []
        for left in range(length - 1, -1, -1):
            label, place, number = self._move_at(place, left, number)
            labels.append(label)
        return tuple(labels)

    def number_of(self, place, labels):
        """The number of the way with these labels, of those of its length from a place."""
        number = 0
        for at, told in enumerate(labels):
            left = len(labels) - at - 1
            ahead = [other for label, other in self._moves[place] if label < told]
            number = number + sum([self.many_from(other, left) for other in ahead])
            place = [other for label, other in self._moves[place] if label == told][0]
        return number

    def _longer(self):
        shorter = self._levels[-1]
        counts = [(place, sum([shorter.get(pair[1], 0) for pair in self._moves[place]])) for place in self._moves]
        return {place: many for place, many in counts if many}

    def _move_at(self, place, left, number):
        """The label and the place of the move with which a way begins, and its number among those that go on there."""
        for label, other in self._moves[place]:
            many = self.many_from(other, left)
            if number < many:
                return label, other, number
            number = number - many
        return None


def totals_of(moves, goals):
    """A dict of how many ways of any length lead from a place to a goal; without those from which a round is met."""
    ends = {goal: True for goal in goals}
    found = {}
    waiting = list(moves)
    while True:
        ready = [place for place in waiting if all([pair[1] in found for pair in moves[place]])]
        if not ready:
            return found
        for place in ready:
            found[place] = sum([found[pair[1]] for pair in moves[place]]) + (1 if place in ends else 0)
        waiting = [place for place in waiting if place not in found]
