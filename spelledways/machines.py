"""Machines that read words letter by letter, and those of questions."""

from spelledways.formulas import letters_over, question_spread
from spelledways.graphs import ascending, is_kind, is_way
from spelledways.plain import is_number, is_tuple_of, is_whole


def as_tuples(value):
    """A value with a tuple in the place of each list, also within."""
    if isinstance(value, (list, tuple)):
        return tuple([as_tuples(part) for part in value])
    return value


class Machine:
    """States from 0 on, steps of a state, a letter and the next state, a start, and ends."""

    def __init__(self, kinds, many, steps, start, ends):
        self.kinds = kinds
        self.many = many
        self.steps = steps
        self.start = start
        self.ends = ends

    def next_states(self, state, letter):
        """The states to which a letter leads from a state, ascending."""
        told = as_tuples(letter)
        return ascending([step[2] for step in self.steps if step[0] == state and as_tuples(step[1]) == told])

    def next_state(self, state, letter):
        """The least state to which a letter leads from a state, or None."""
        states = self.next_states(state, letter)
        return states[0] if states else None

    def states_behind(self, word):
        """The states to which the letters of a word lead from the start, ascending."""
        states = (self.start,)
        for letter in word:
            states = ascending([behind for state in states for behind in self.next_states(state, letter)])
        return states

    def accepts(self, word):
        """Whether an end is among the states behind a word."""
        return any([state in self.ends for state in self.states_behind(word)])

    def __eq__(self, other):
        return isinstance(other, Machine) and machine_parts(self) == machine_parts(other)


def machine_parts(machine):
    """All that two equal machines have alike, lists as tuples."""
    return as_tuples((machine.kinds, machine.many, machine.steps, machine.start, machine.ends))


def are_ascending(things):
    """Whether each thing is behind the one ahead."""
    return all([things[at - 1] < things[at] for at in range(1, len(things))])


def is_state(value, many):
    """Whether a value is one of so many states."""
    return is_number(value) and value < many


def is_step_over(value, kinds, many):
    """Whether a value is a step between so many states, with a letter over some kinds."""
    if not is_tuple_of(value, 3) or not is_state(value[0], many) or not is_state(value[2], many):
        return False
    letter = value[1]
    return is_tuple_of(letter, 2) and isinstance(letter[0], str) and letter[0] in kinds and is_way(letter[1])


def is_machine(value):
    """Whether a value is a machine with right parts, all of its sequences tuples."""
    if not isinstance(value, Machine) or not is_whole(value.many) or value.many < 1:
        return False
    if not isinstance(value.kinds, tuple) or not all([is_kind(kind) for kind in value.kinds]):
        return False
    if not isinstance(value.steps, tuple) or not isinstance(value.ends, tuple):
        return False
    if not is_state(value.start, value.many):
        return False
    if not all([is_step_over(step, value.kinds, value.many) for step in value.steps]):
        return False
    if not all([is_state(state, value.many) for state in value.ends]):
        return False
    return are_ascending(value.kinds) and are_ascending(value.steps) and are_ascending(value.ends)


def is_single(machine):
    """Whether each letter leads from each state to at most one."""
    heads = [(step[0], as_tuples(step[1]), step[2]) for step in machine.steps]
    return len(set(heads)) == len({head[:2] for head in heads})


class Parts:
    """The letters of a question, each time that it may read one, numbered from 1 on, and which may follow which."""

    def __init__(self):
        self.letters = []
        self.joints = []

    def lot_of(self, question):
        """Number the letters of a question; tell of it, as the joining methods do, a lot:
        whether it spells the empty word, and the numbers of the letters that may be first, and last."""
        form = question[0]
        if form == "one" or form == "any":
            self.letters.append((question[1] if form == "one" else None, question[-1]))
            return False, (len(self.letters),), (len(self.letters),)
        if form == "empty":
            return True, (), ()
        if form == "row":
            return self.in_a_row([self.lot_of(part) for part in question[1]])
        if form == "either":
            return side_by_side([self.lot_of(part) for part in question[1]])
        if form == "times":
            return self.repeated(question[1], question[2], question[3])
        is_empty, firsts, lasts = self.lot_of(question[1])
        if form == "star" or form == "some":
            self.joints.extend([(last, first) for last in lasts for first in firsts])
        return is_empty or form != "some", firsts, lasts

    def in_a_row(self, lots):
        """The lot of some, one behind the other."""
        is_empty, firsts, lasts = True, (), ()
        for lot in lots:
            self.joints.extend([(last, first) for last in lasts for first in lot[1]])
            firsts = firsts + lot[1] if is_empty else firsts
            lasts = lasts + lot[2] if lot[0] else lot[2]
            is_empty = is_empty and lot[0]
        return is_empty, firsts, lasts

    def repeated(self, part, low, high):
        """The lot of a part, low to high times."""
        # What has no letters is not written out: many such times in one another would take for ever.
        if high == 0 or question_spread(part) == 0:
            return low == 0 or self.lot_of(part)[0], (), ()
        lots = [self.lot_of(part) for _ in range(high)]
        return self.in_a_row(lots[:low] + [(True, lot[1], lot[2]) for lot in lots[low:]])


def side_by_side(lots):
    """The lot of either of some."""
    firsts = [number for lot in lots for number in lot[1]]
    lasts = [number for lot in lots for number in lot[2]]
    return any([lot[0] for lot in lots]), tuple(firsts), tuple(lasts)


def machine_of(question, kinds):
    """A machine that accepts just the words over some kinds that a question spells."""
    parts = Parts()
    is_empty, firsts, lasts = parts.lot_of(question)
    # A state is the number of the letter that was read last; 0 ahead of the first one.
    steps = []
    for state, number in [(0, first) for first in firsts] + parts.joints:
        kind, way = parts.letters[number - 1]
        steps.extend([(state, letter, number) for letter in letters_over(kinds)
                      if letter[1] == way and (kind is None or kind == letter[0])])
    ends = lasts + (0,) if is_empty else lasts
    return Machine(tuple(kinds), len(parts.letters) + 1, ascending(steps), 0, ascending(ends))
