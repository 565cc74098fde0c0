"""Patterns: several asks at once between places at which nodes stand, and the rows of nodes that keep them."""

from spelledways.errors import InvalidPattern, InvalidSize, Refused
from spelledways.formulas import is_question
from spelledways.graphs import is_node
from spelledways.places import answers_ask
from spelledways.plain import is_number, is_tuple_of
from spelledways.search import answers, walk_for
from spelledways.shut import check_shut, shut_set

MOST_PLACES = 4
MOST_ASKS = 6


def is_place_or_node(value, many):
    """Whether a value is one of so many places, or a node."""
    return is_node(value) or (is_number(value) and value < many)


def is_pattern_ask(value, many):
    """Whether a value is a question between two things, each one of so many places or a node."""
    if not is_tuple_of(value, 3) or not is_question(value[1]):
        return False
    return is_place_or_node(value[0], many) and is_place_or_node(value[2], many)


def need_pattern(value):
    """Raise InvalidPattern unless a value is a pattern."""
    if not is_tuple_of(value, 2) or not is_number(value[0]) or value[0] > MOST_PLACES:
        raise InvalidPattern(-1)
    many, asks = value
    if not isinstance(asks, tuple) or len(asks) > MOST_ASKS:
        raise InvalidPattern(-1)
    for at, ask in enumerate(asks):
        if not is_pattern_ask(ask, many):
            raise InvalidPattern(at)


def is_row(graph, pattern, value):
    """Whether a value is a row of a pattern in a graph."""
    if not is_tuple_of(value, pattern[0]):
        return False
    return all([isinstance(node, str) and node in graph[0] for node in value])


def need_row(graph, pattern, value):
    """Raise InvalidSize("row") unless a value is a row of a pattern in a graph."""
    if not is_row(graph, pattern, value):
        raise InvalidSize("row")


def node_meant(end, row):
    """The node that an end of an ask means: itself, or what stands at the place."""
    return end if isinstance(end, str) else row[end]


def ask_meant(ask, row):
    """An ask of a pattern, with the nodes that a row gives to its places."""
    return node_meant(ask[0], row), ask[1], node_meant(ask[2], row)


def pairs_kept(graph, pattern):
    """For each ask of a pattern a dict of True for the pairs of nodes that keep it."""
    return [{pair: True for pair in answers(graph, ask[1])} for ask in pattern[1]]


def places_of(ask):
    """The places at the ends of an ask."""
    return [end for end in (ask[0], ask[2]) if not isinstance(end, str)]


def does_keep(ask, pairs, row):
    """Whether what a row gives to the places of an ask is one of the pairs that keep it."""
    return (node_meant(ask[0], row), node_meant(ask[2], row)) in pairs


def keeps(graph, pattern, row):
    """Whether a row keeps all asks."""
    need_row(graph, pattern, row)
    return all([does_keep(ask, pairs, row) for ask, pairs in zip(pattern[1], pairs_kept(graph, pattern))])


def rows(graph, pattern):
    """The rows that keep all asks, ascending."""
    asks = list(zip(pattern[1], pairs_kept(graph, pattern)))
    found = [()]
    for many in range(pattern[0] + 1):
        # An ask is looked at as soon as its last place is given: so no more rows are made than go on from there.
        here = [told for told in asks if max(places_of(told[0]), default=-1) == many - 1]
        found = [row for row in found if all([does_keep(ask, pairs, row) for ask, pairs in here])]
        if many < pattern[0]:
            found = [row + (node,) for row in found for node in graph[0]]
    return tuple(found)


def row_walks(graph, pattern, row):
    """For each ask the first walk that answers it, with the nodes that a row means."""
    need_row(graph, pattern, row)
    walks = [walk_for(graph, ask_meant(ask, row)) for ask in pattern[1]]
    if None in walks:
        raise Refused("row")
    return tuple(walks)


def lacking(graph, pattern, row):
    """The number of the first ask that a row does not keep, and the shut set of it; None if it keeps all."""
    need_row(graph, pattern, row)
    for at, pairs in enumerate(pairs_kept(graph, pattern)):
        ask = pattern[1][at]
        if not does_keep(ask, pairs, row):
            return at, shut_set(graph, ask_meant(ask, row))
    return None


def check_row(graph, pattern, row, value):
    """Whether a value has for each ask a walk that answers it, with the nodes that a row means."""
    if not is_row(graph, pattern, row) or not is_tuple_of(value, len(pattern[1])):
        return False
    return all([answers_ask(graph, ask_meant(ask, row), walk) for ask, walk in zip(pattern[1], value)])


def check_lacking(graph, pattern, row, value):
    """Whether a value is the number of an ask, and a shut set of it with the nodes that a row means."""
    if not is_row(graph, pattern, row) or not is_tuple_of(value, 2):
        return False
    at, places = value
    if not is_number(at) or at >= len(pattern[1]):
        return False
    return check_shut(graph, ask_meant(pattern[1][at], row), places)
