"""Asks, and the places and moves that lead to their answers."""

from spelledways.errors import InvalidAsk
from spelledways.formulas import need_question
from spelledways.graphs import is_node, kinds_of
from spelledways.least import least_machine
from spelledways.moving import Moves, state_behind
from spelledways.plain import is_tuple_of
from spelledways.waysof import is_walk, walk_end, walk_word


def is_end(value):
    """Whether a value may stand at an end of an ask."""
    return value is None or is_node(value)


def need_ask(value):
    """Raise InvalidAsk or InvalidQuestion unless a value is an ask."""
    if not is_tuple_of(value, 3):
        raise InvalidAsk(-1)
    if not is_end(value[0]):
        raise InvalidAsk(0)
    need_question(value[1])
    if not is_end(value[2]):
        raise InvalidAsk(2)


def machine_for(graph, question):
    """The least machine of a question over the kinds of a graph."""
    return least_machine(question, kinds_of(graph))


def moves_with(graph, machine):
    """All moves of a graph with the machine for it."""
    return Moves(graph, machine, None)


def nodes_meant(graph, end):
    """The nodes of a graph that an end of an ask means."""
    return tuple([node for node in graph[0] if end is None or node == end])


def starts_with(graph, machine, ask):
    """The places at which a walk that answers begins."""
    return tuple([(node, machine.start) for node in nodes_meant(graph, ask[0])])


def goals_with(graph, machine, ask):
    """The places at which a walk that answers ends."""
    return tuple([(node, state) for node in nodes_meant(graph, ask[2]) for state in machine.ends])


def starts(graph, ask):
    """The places at which a walk that answers begins, ascending."""
    return starts_with(graph, machine_for(graph, ask[1]), ask)


def goals(graph, ask):
    """The places at which a walk that answers ends, ascending."""
    return goals_with(graph, machine_for(graph, ask[1]), ask)


def moves(graph, question, place):
    """The moves that begin at a place, ascending: pairs of a step and the place behind it."""
    return tuple(moves_with(graph, machine_for(graph, question)).from_place(place))


def place_behind(graph, question, walk):
    """The place behind all steps of a walk; None if the machine can't read its word."""
    state = state_behind(machine_for(graph, question), walk_word(walk))
    return None if state is None else (walk_end(walk), state)


def answers_ask(graph, ask, value):
    """Whether a value is a walk of a graph that answers an ask."""
    if not is_walk(graph, value):
        return False
    if value[0] not in nodes_meant(graph, ask[0]) or walk_end(value) not in nodes_meant(graph, ask[2]):
        return False
    machine = machine_for(graph, ask[1])
    return state_behind(machine, walk_word(value)) in machine.ends
