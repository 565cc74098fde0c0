"""Walks that answer an ask: how many there are, which has a number, and whether they ever end."""

from spelledways.errors import InvalidSize, Refused
from spelledways.fields import field_of, first_walk, leading_to
from spelledways.moving import state_behind
from spelledways.places import answers_ask
from spelledways.plain import is_number, is_tuple_of
from spelledways.search import Search
from spelledways.tallies import Ways, totals_of
from spelledways.waysof import is_walk, walk_end, walk_word

MOST_STEPS = 60


def need_size(value, word):
    """Raise InvalidSize unless a value is an integer from 0 to 60."""
    if not is_number(value) or value > MOST_STEPS:
        raise InvalidSize(word)


class Counted:
    """The walks that answer an ask, by their steps: those of one start behind those of the one ahead."""

    def __init__(self, graph, ask):
        search = Search(graph, ask)
        self._starts = search.starts
        self._ways = Ways({place: search.moves.from_place(place) for place in search.field()}, search.goals)

    def how_many(self, steps):
        """How many there are of so many steps."""
        return sum([self._ways.many_from(start, steps) for start in self._starts])

    def walk(self, steps, number):
        """The one with a number, of those of so many steps."""
        for start in self._starts:
            many = self._ways.many_from(start, steps)
            if number < many:
                return start[0], self._ways.labels_at(start, steps, number)
            number = number - many
        raise InvalidSize("number")

    def number_of_walk(self, walk):
        """The number of one, among those of as many steps."""
        ahead = [start for start in self._starts if start[0] < walk[0]]
        here = [start for start in self._starts if start[0] == walk[0]][0]
        steps = walk[1]
        return sum([self._ways.many_from(start, len(steps)) for start in ahead]) + self._ways.number_of(here, steps)


def count_walks(graph, ask, steps):
    """How many walks of just so many steps answer an ask."""
    need_size(steps, "steps")
    return Counted(graph, ask).how_many(steps)


def walk_at(graph, ask, steps, number):
    """The walk with a number, of those of just so many steps that answer an ask."""
    need_size(steps, "steps")
    if not is_number(number):
        raise InvalidSize("number")
    return Counted(graph, ask).walk(steps, number)


def number_of(graph, ask, walk):
    """The number of a walk among those of as many steps that answer an ask."""
    if not answers_ask(graph, ask, walk):
        raise Refused("walk")
    return Counted(graph, ask).number_of_walk(walk)


def first_walks(graph, ask, many):
    """The first walks that answer an ask, in order, so many if there are, of at most 60 steps each."""
    need_size(many, "many")
    counted = Counted(graph, ask)
    walks = []
    for steps in range(MOST_STEPS + 1):
        here = min(counted.how_many(steps), many - len(walks))
        walks.extend([counted.walk(steps, number) for number in range(here)])
    return tuple(walks)


def useful_moves(search):
    """The moves between the places that are reached, and from which a goal is reached."""
    going = leading_to(search.moves, search.goals)
    useful = [place for place in search.field() if place in going]
    return {place: [pair for pair in search.moves.from_place(place) if pair[1] in going] for place in useful}


def total(graph, ask):
    """How many walks answer an ask; None if it is endless."""
    search = Search(graph, ask)
    moves = useful_moves(search)
    totals = totals_of(moves, search.goals)
    if len(totals) < len(moves):
        return None
    return sum([totals[start] for start in search.starts if start in totals])


def ring_in(moves):
    """A place from which moves lead to itself again, and their steps; None if there is none."""
    totals = totals_of(moves, ())
    left = [place for place in moves if place not in totals]
    if not left:
        return None
    # Each place that is left has a move to one that is left: so who goes on there comes to one once more.
    place = min(left)
    met = {}
    steps = []
    while place not in met:
        met[place] = len(steps)
        step, place = [pair for pair in moves[place] if pair[1] not in totals][0]
        steps.append(step)
    return place, tuple(steps[met[place]:])


def round_of(graph, ask):
    """Some round of an ask: a walk, steps that may be gone any number of times, and those to the end, or None."""
    search = Search(graph, ask)
    ring = ring_in(useful_moves(search))
    if ring is None:
        return None
    place, steps = ring
    walk = first_walk(search.moves, search.field(), [place])
    rest = first_walk(search.moves, field_of(search.moves, [place]), search.goals)
    return walk, steps, rest[1]


def check_round(graph, ask, value):
    """Whether a value is a round of an ask."""
    if not is_tuple_of(value, 3) or not is_walk(graph, value[0]):
        return False
    if not isinstance(value[1], tuple) or not value[1] or not isinstance(value[2], tuple):
        return False
    node, steps = value[0]
    once = (node, steps + value[1])
    if not answers_ask(graph, ask, (node, once[1] + value[2])):
        return False
    # Since the whole walk answers, each beginning of it is a walk, and the machine reads it.
    machine = Search(graph, ask).machine
    states = [state_behind(machine, walk_word(walk)) for walk in (value[0], once)]
    return states[0] == states[1] and walk_end(value[0]) == walk_end(once)
