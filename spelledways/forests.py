"""Rings of places in patterns, and rows that keep all asks by their numbers."""

from spelledways.errors import InvalidSize, Refused
from spelledways.joins import joined_places
from spelledways.patterns import need_row, rows
from spelledways.plain import is_number


def ring_of_places(pattern):
    """The first tuple of at least three unlike places in which each is joined to the next, the last to the first."""
    joined = [joined_places(pattern, place) for place in range(pattern[0])]
    paths = [(place,) for place in range(pattern[0])]
    while paths:
        rings = [path for path in paths if len(path) > 2 and path[0] in joined[path[-1]]]
        if rings:
            return rings[0]
        paths = [path + (place,) for path in paths for place in joined[path[-1]] if place not in path]
    return None


def count_rows(graph, pattern):
    """The number of rows that keep all asks."""
    return len(rows(graph, pattern))


def row_at(graph, pattern, number):
    """The row with a number, of those that keep all asks, ascending."""
    found = rows(graph, pattern)
    if not is_number(number) or number >= len(found):
        raise InvalidSize("number")
    return found[number]


def row_number(graph, pattern, row):
    """The number of a row among those that keep all asks."""
    need_row(graph, pattern, row)
    found = rows(graph, pattern)
    if row not in found:
        raise Refused("row")
    return found.index(row)
