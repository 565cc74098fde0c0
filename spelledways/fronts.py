"""Fronts: where one can stand at the last place of a word's line, who reads a machine there and back.

Here a front is a pair of masks: (seen, turns), the bits of the seen states, and a tuple that has for each state the
bits of those in which one can stand at the last place again. The machine need not be single."""

from spelledways.singles import bits_in, leads_of, mask_of, united_masks


def united(rows, mask):
    """All bits of the rows whose numbers are the bits of a mask."""
    found = 0
    while mask:
        lowest = mask & -mask
        found = found | rows[lowest.bit_length() - 1]
        mask = mask - lowest
    return found


def closed(rows):
    """For each row the bits to which none or more steps lead, if a row has the bits to which one step leads."""
    found = list(rows)
    for middle, row in enumerate(rows):
        bit = 1 << middle
        if row:
            here = found[middle]
            found = [other | here if other & bit else other for other in found]
    return tuple([row | 1 << at for at, row in enumerate(found)])


class Fronts:
    """The fronts of a machine."""

    def __init__(self, machine):
        self._many = machine.many
        self._ends = mask_of(machine.ends)
        leads = leads_of(machine.steps)
        self._leads = {letter: tuple([row.get(at, 0) for at in range(machine.many)]) for letter, row in leads.items()}
        self._nowhere = (0,) * machine.many
        self.first = (1 << machine.start, closed(self._nowhere))

    def behind(self, front, letter):
        """The next front for a letter."""
        seen, turns = front
        there = self._leads.get(letter, self._nowhere)
        back = self._leads.get((letter[0], -letter[1]), self._nowhere)
        # From each state behind the letter turned: all in which one stands again after a turn and the letter.
        # Seldom more than a few are met so.
        again = {state: united(there, turns[state]) for state in bits_in(united_masks(back))}
        rounds = closed([united(again, row) for row in back])
        return united(rounds, united(there, seen)), rounds

    def is_end_seen(self, front):
        """Whether one of the ends is seen: then a word of the machine folds onto the word."""
        return front[0] & self._ends != 0


def told_front(front):
    """A front as it is told: the ascending tuples of the states, and of the pairs of states."""
    seen, turns = front
    pairs = [(state, other) for state, row in enumerate(turns) for other in bits_in(row)]
    return tuple(bits_in(seen)), tuple(pairs)


def front_told(told, many):
    """The front that is told so, of a machine with so many states."""
    turns = [0] * many
    for state, other in told[1]:
        turns[state] = turns[state] | 1 << other
    return mask_of(told[0]), tuple(turns)
