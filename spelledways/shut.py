"""Shut sets: places that hold all starts of an ask, and that no move leaves for a goal."""

from spelledways.errors import Refused
from spelledways.fields import field_of, leading_to
from spelledways.moving import are_places
from spelledways.search import Search


def check_shut(graph, ask, value):
    """Whether a value is a shut set of an ask."""
    search = Search(graph, ask)
    if not are_places(value, graph, search.machine):
        return False
    inside = {place: True for place in value}
    if not all([start in inside for start in search.starts]) or any([goal in inside for goal in search.goals]):
        return False
    return all([other in inside for place in value for other in search.moves.behind(place)])


def shut_set(graph, ask):
    """The shut set with the fewest places: those that are reached."""
    search = Search(graph, ask)
    numbers = field_of(search.moves, search.starts)
    if any([goal in numbers for goal in search.goals]):
        raise Refused("walk")
    return tuple(sorted(numbers))


def widest_shut(graph, ask):
    """The shut set with the most places: those from which no goal is reached."""
    search = Search(graph, ask)
    open_places = leading_to(search.moves, search.goals)
    if any([start in open_places for start in search.starts]):
        raise Refused("walk")
    places = [(node, state) for node in graph[0] for state in range(search.machine.many)]
    return tuple([place for place in places if place not in open_places])
