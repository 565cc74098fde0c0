"""Fields: how far each place is from a node; and how they change when lines go and come."""

from spelledways.fields import doubt_in, field_of, mended_in, nearer_in
from spelledways.formulas import kinds_in, strange_kind
from spelledways.graphs import all_done, ascending
from spelledways.least import least_machine
from spelledways.moving import Moves, are_places
from spelledways.plain import is_number, is_tuple_of


def kept_machine(question):
    """The least machine of a question over its kinds and a strange one, as which all others are read."""
    kinds = kinds_in(question)
    return least_machine(question, ascending(kinds + (strange_kind(kinds),)))


def read_kind(question, kind):
    """The kind as which the kept machine reads a kind."""
    kinds = kinds_in(question)
    return kind if kind in kinds else strange_kind(kinds)


def kept_moves(graph, question, machine):
    """All moves of a graph with the kept machine of a question."""
    return Moves(graph, machine, strange_kind(kinds_in(question)))


def moves_of(graph, question):
    """All moves of a graph with a question's kept machine."""
    return kept_moves(graph, question, kept_machine(question))


def moves_from(graph, question, place):
    """The moves that begin at a place, ascending: pairs of a step and the place behind it."""
    return tuple(moves_of(graph, question).from_place(place))


def moves_into(graph, question, place):
    """The moves that lead to a place, ascending: pairs of a step and the place ahead of it."""
    return tuple(moves_of(graph, question).into_place(place))


def as_rows(numbers):
    """A field as it is told: the ascending tuple of its pairs of a place and a number."""
    return tuple(sorted(numbers.items()))


def field(graph, question, node):
    """The places that moves lead to from a node, each with the fewest of them, ascending."""
    machine = kept_machine(question)
    starts = [(node, machine.start)] if node in graph[0] else []
    return as_rows(field_of(kept_moves(graph, question, machine), starts))


def are_rows(value, graph, machine):
    """Whether a value is an ascending tuple of pairs of an unlike place and a number."""
    if not isinstance(value, tuple) or not all([is_tuple_of(pair, 2) and is_number(pair[1]) for pair in value]):
        return False
    return are_places(tuple([pair[0] for pair in value]), graph, machine)


def check_field(graph, question, node, value):
    """Whether a value is the field from a node, by looking at each place and its neighbours."""
    machine = kept_machine(question)
    if not are_rows(value, graph, machine):
        return False
    moves = kept_moves(graph, question, machine)
    numbers = {place: number for place, number in value}
    start = (node, machine.start)
    if numbers.get(start, 0) != 0 or (node in graph[0] and start not in numbers):
        return False
    for place, number in value:
        if any([numbers.get(other, number + 2) > number + 1 for other in moves.behind(place)]):
            return False
        if place != start and not any([numbers.get(other, number) == number - 1 for other in moves.ahead(place)]):
            return False
    return True


def without_lines(graph, lines):
    """The graph without some lines; all nodes stay."""
    return all_done(graph, [("cut", line) for line in lines])


def doubtful(graph, question, rows, lines):
    """The places of a field of the graph that are in doubt without some lines, ascending."""
    numbers = {place: number for place, number in rows}
    moves = moves_of(without_lines(graph, lines), question)
    return tuple(sorted(doubt_in(numbers, moves, moves.along(lines))))


def changed_field(numbers, left_out, changes):
    """A field without some places, and with others in their place."""
    found = {place: numbers[place] for place in numbers if place not in left_out}
    for place in changes:
        found[place] = changes[place]
    return found


def mended(graph, question, rows, places):
    """The field of a graph, from that of the graph with some lines more and the places in doubt without them."""
    numbers = {place: number for place, number in rows}
    doubt = {place: True for place in places}
    changes = mended_in(numbers, moves_of(graph, question), doubt)
    return as_rows(changed_field(numbers, doubt, changes))


def nearer(graph, question, rows, lines):
    """The field of a graph, from that of the graph without some lines."""
    numbers = {place: number for place, number in rows}
    moves = moves_of(graph, question)
    changes = nearer_in(numbers, moves, moves.along(lines))
    return as_rows(changed_field(numbers, changes, changes))
