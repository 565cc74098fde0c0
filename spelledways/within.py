"""Questions within one another on all graphs, and what shows it: a loose word, or a paper of marks."""

from spelledways.errors import Refused
from spelledways.folding import folded_word, line_graph
from spelledways.fields import unlike
from spelledways.formulas import spells, wide_kinds
from spelledways.fronts import Fronts, front_told, told_front
from spelledways.graphs import is_kind, is_way
from spelledways.least import least_machine
from spelledways.machines import are_ascending, is_state, machine_of
from spelledways.moving import rows_of
from spelledways.plain import is_tuple_of


def lies_in(front, others):
    """Whether a front has all that one of some others has."""
    for seen, turns in others:
        if seen & front[0] == seen and all([row & here == row for row, here in zip(turns, front[1])]):
            return True
    return False


def small_machine(question, kinds):
    """A machine with few states that accepts just the words over some kinds that a question spells."""
    plain, single = machine_of(question, kinds), least_machine(question, kinds)
    return plain if plain.many < single.many else single


def loose_word(question, other):
    """The first word over the wide kinds that a question spells and onto which no word of the other folds, or None."""
    kinds = wide_kinds(question, other)
    machine = least_machine(question, kinds)
    rows = rows_of(machine)
    fronts = Fronts(small_machine(other, kinds))
    # The marks behind all words of one length, the least word first. What is loose behind a mark is so behind one with
    # less in its front: so one that comes later, or is longer, and has all that one ahead has, is left out.
    met = [[] for _ in rows]
    level = [((), 0, fronts.first)]
    while level:
        longer = []
        for word, state, front in level:
            if not lies_in(front, met[state]):
                met[state].append(front)
                if state in machine.ends and not fronts.is_end_seen(front):
                    return word
                longer.extend([(word + (letter,), behind, fronts.behind(front, letter))
                               for letter, behind in rows[state].items()])
        level = longer
    return None


def is_within(question, other):
    """Whether on every graph each pair of a question is a pair of another one."""
    return loose_word(question, other) is None


def is_same(question, other):
    """Whether two questions lie within one another."""
    return is_within(question, other) and is_within(other, question)


def parting_graph(question, other):
    """A graph and two nodes that are a pair of a question and not of another one, or None."""
    word = loose_word(question, other)
    return None if word is None else (line_graph(word), "0", str(len(word)))


def is_word(value):
    """Whether a value is a word over whatever kinds."""
    if not isinstance(value, tuple):
        return False
    return all([is_tuple_of(letter, 2) and is_kind(letter[0]) and is_way(letter[1]) for letter in value])


def check_loose(question, other, value):
    """Whether a value is a word that a question spells and onto which no word of another one folds."""
    return is_word(value) and spells(question, value) and folded_word(other, value) is None


class Marks:
    """The marks of two questions: pairs of a state of the one and a front of the other, both over the wide kinds."""

    def __init__(self, question, other):
        kinds = wide_kinds(question, other)
        self.one = least_machine(question, kinds)
        self.other = least_machine(other, kinds)
        self._rows = rows_of(self.one)
        self._fronts = Fronts(self.other)
        self.first = (self.one.start, self._fronts.first)

    def behind(self, mark):
        """The list of the marks to which letters lead from a mark."""
        state, front = mark
        return [(behind, self._fronts.behind(front, letter)) for letter, behind in self._rows[state].items()]

    def is_loose(self, mark):
        """Whether a word that leads to a mark is loose."""
        return mark[0] in self.one.ends and not self._fronts.is_end_seen(mark[1])


def within_paper(question, other):
    """All marks to which words lead, which show that a question lies within another one, ascending."""
    if not is_within(question, other):
        raise Refused("loose")
    marks = Marks(question, other)
    met = {marks.first: True}
    waiting = [marks.first]
    while waiting:
        further = unlike([mark for mark in marks.behind(waiting.pop()) if mark not in met])
        for mark in further:
            met[mark] = True
        waiting.extend(further)
    return tuple(sorted([(state, told_front(front)) for state, front in met]))


def is_mark(value, many, many_others):
    """Whether a value is a pair of a state and a front, of machines with so many states."""
    if not is_tuple_of(value, 2) or not is_state(value[0], many) or not is_tuple_of(value[1], 2):
        return False
    seen, turns = value[1]
    if not isinstance(seen, tuple) or not all([is_state(state, many_others) for state in seen]):
        return False
    if not isinstance(turns, tuple) or not all([is_turn(pair, many_others) for pair in turns]):
        return False
    return are_ascending(seen) and are_ascending(turns)


def is_turn(value, many):
    """Whether a value is a pair of states of a machine with so many."""
    return is_tuple_of(value, 2) and is_state(value[0], many) and is_state(value[1], many)


def check_within(question, other, value):
    """Whether a value is a paper that shows that a question lies within another one."""
    marks = Marks(question, other)
    if not isinstance(value, tuple) or not all([is_mark(mark, marks.one.many, marks.other.many) for mark in value]):
        return False
    if not are_ascending(value):
        return False
    told = [(state, front_told(front, marks.other.many)) for state, front in value]
    inside = {mark: True for mark in told}
    if marks.first not in inside or any([marks.is_loose(mark) for mark in told]):
        return False
    return all([behind in inside for mark in told for behind in marks.behind(mark)])


def lean_either(parts):
    """The numbers of those parts of an either that are left when what lies within the others goes, from the last."""
    left = list(range(len(parts)))
    for at in range(len(parts) - 1, -1, -1):
        others = [other for other in left if other != at]
        if is_within(parts[at], ("either", tuple([parts[other] for other in others]))):
            left = others
    return tuple(left)
