"""Moves between places: a place is a pair of a node of a graph and a state of a single machine that reads its steps."""

from spelledways.plain import is_number, is_tuple_of
from spelledways.waysof import step_ends


def rows_of(machine):
    """For each state of a single machine the dict of the next states by letters."""
    rows = [{} for _ in range(machine.many)]
    for state, letter, behind in machine.steps:
        rows[state][letter] = behind
    return rows


def heads_of(machine):
    """For each state of a machine the dict, by letters, of the lists of states from which it is reached."""
    heads = [{} for _ in range(machine.many)]
    for state, letter, behind in machine.steps:
        heads[behind].setdefault(letter, []).append(state)
    return heads


def state_behind(machine, word):
    """The state of a single machine behind a word from the start, or None."""
    rows = rows_of(machine)
    state = machine.start
    for letter in word:
        if state is None:
            return None
        state = rows[state].get(letter)
    return state


class Moves:
    """The moves of a graph with a single machine. A kind that the machine does not know is read as another one."""

    def __init__(self, graph, machine, strange):
        self._kinds = machine.kinds
        self._strange = strange
        self._rows = rows_of(machine)
        self._heads = heads_of(machine)
        self._begun = {node: [] for node in graph[0]}
        self._ended = {node: [] for node in graph[0]}
        for step in sorted([(line, way) for line, _ in graph[1] for way in (1, -1)]):
            begin, end = step_ends(step)
            self._begun[begin].append((step, self.letter_of(step), end))
            self._ended[end].append((step, self.letter_of(step), begin))
        self._behind = {}
        self._ahead = {}

    def letter_of(self, step):
        """The letter as which the machine reads a step."""
        kind = step[0][1]
        return kind if kind in self._kinds else self._strange, step[1]

    def from_place(self, place):
        """The list of the moves that begin at a place, ascending: pairs of a step and the place behind it."""
        node, state = place
        row = self._rows[state]
        return [(step, (end, row[letter])) for step, letter, end in self._begun.get(node, []) if letter in row]

    def into_place(self, place):
        """The list of the moves that lead to a place, ascending: pairs of a step and the place ahead of it."""
        node, state = place
        row = self._heads[state]
        steps = [told for told in self._ended.get(node, []) if told[1] in row]
        return [(step, (begin, head)) for step, letter, begin in steps for head in row[letter]]

    def behind(self, place):
        """The list of the places to which moves lead from a place."""
        # Looked for again and again, for the field of each node.
        if place not in self._behind:
            self._behind[place] = [pair[1] for pair in self.from_place(place)]
        return self._behind[place]

    def ahead(self, place):
        """The list of the places from which moves lead to a place."""
        if place not in self._ahead:
            self._ahead[place] = [pair[1] for pair in self.into_place(place)]
        return self._ahead[place]

    def along(self, lines):
        """The list of the pairs of places ahead of and behind each move along one of some lines, either way."""
        found = []
        for step in [(line, way) for line in lines for way in (1, -1)]:
            begin, end = step_ends(step)
            letter = self.letter_of(step)
            states = [(state, row[letter]) for state, row in enumerate(self._rows) if letter in row]
            found.extend([((begin, state), (end, behind)) for state, behind in states])
        return found


def is_place(value, graph, machine):
    """Whether a value is a place of a graph and a machine."""
    if not is_tuple_of(value, 2) or not isinstance(value[0], str) or value[0] not in graph[0]:
        return False
    return is_number(value[1]) and value[1] < machine.many


def are_places(value, graph, machine):
    """Whether a value is an ascending tuple of places of a graph and a machine."""
    if not isinstance(value, tuple) or not all([is_place(place, graph, machine) for place in value]):
        return False
    return all([value[at - 1] < value[at] for at in range(1, len(value))])
