"""Answers: the pairs joined by a walk that spells a question, and the first such walks."""

from spelledways.fields import field_of, first_walk, nearest
from spelledways.places import goals_with, machine_for, moves_with, starts_with


class Search:
    """All that is looked for again and again while an ask is answered."""

    def __init__(self, graph, ask):
        self.machine = machine_for(graph, ask[1])
        self.moves = moves_with(graph, self.machine)
        self.starts = starts_with(graph, self.machine, ask)
        self.goals = goals_with(graph, self.machine, ask)

    def field(self):
        """The places that are reached from all starts, with their numbers."""
        return field_of(self.moves, self.starts)


def reached(graph, ask):
    """The pairs of a place that is reached and the fewest moves that lead there, ascending."""
    return tuple(sorted(Search(graph, ask).field().items()))


def told_distances(graph, ask):
    """The ascending tuple of triples of the first and the last node, and the fewest steps, of walks that answer."""
    search = Search(graph, ask)
    told = []
    for start in search.starts:
        numbers = field_of(search.moves, [start])
        steps = {}
        for goal in search.goals:
            if goal in numbers:
                steps[goal[0]] = min(numbers[goal], steps.get(goal[0], numbers[goal]))
        told.extend([(start[0], node, steps[node]) for node in steps])
    return tuple(told)


def distances(graph, question):
    """The triples of two nodes and the fewest steps of a walk between them that spells a question, ascending."""
    return told_distances(graph, (None, question, None))


def answers_of(graph, ask):
    """The pairs of the first and the last node of walks that answer an ask, ascending."""
    return tuple([told[:2] for told in told_distances(graph, ask)])


def answers(graph, question):
    """The pairs of nodes joined by a walk that spells a question, ascending."""
    return answers_of(graph, (None, question, None))


def distance(graph, ask):
    """The fewest steps of a walk that answers an ask, or None."""
    search = Search(graph, ask)
    return nearest(search.field(), search.goals)


def walk_for(graph, ask):
    """The first walk, in order, that answers an ask; None if there is none."""
    search = Search(graph, ask)
    return first_walk(search.moves, search.field(), search.goals)
