"""Graphs, their lines, and the deeds that change them."""

from spelledways.errors import InvalidDeed, InvalidGraph, InvalidLine, NoName
from spelledways.plain import is_number, is_sequence, is_tuple_of, is_whole

EMPTY = ((), ())
NAME_SIGNS = "0123456789abcdefghijklmnopqrstuvwxyz"
MOST_NAME_SIGNS = 4
GREATEST_PRICE = 1000000
DEED_SIZES = {"node": 2, "drop": 2, "line": 3, "cut": 2}


def is_node(value):
    """Whether a value is a string of 1 to 4 signs, small letters and figures."""
    if not isinstance(value, str) or not 1 <= len(value) <= MOST_NAME_SIGNS:
        return False
    return all([sign in NAME_SIGNS for sign in value])


def is_kind(value):
    """Whether a value may be the kind of a line."""
    return is_node(value)


def is_price(value):
    """Whether a value may be the price of a line."""
    return is_number(value) and value <= GREATEST_PRICE


def is_way(value):
    """Whether a value is one of the integers 1 and -1."""
    return is_whole(value) and (value == 1 or value == -1)


def line_fault(value):
    """What InvalidLine tells of a value; None for a line."""
    if not is_tuple_of(value, 3):
        return -1
    for at, part in enumerate(value):
        if not is_node(part):
            return at
    return None


def is_line(value):
    """Whether a value is a triple (from, kind, to)."""
    return line_fault(value) is None


def need_line(value):
    """Raise InvalidLine unless a value is a line."""
    at = line_fault(value)
    if at is not None:
        raise InvalidLine(at)


def is_priced_line(value, nodes):
    """Whether a value is a pair of a line between these nodes and a price."""
    if not is_tuple_of(value, 2) or not is_line(value[0]) or not is_price(value[1]):
        return False
    return value[0][0] in nodes and value[0][2] in nodes


def graph_fault(value):
    """What InvalidGraph tells of a value; None for a graph."""
    if not is_tuple_of(value, 2) or not isinstance(value[0], tuple) or not isinstance(value[1], tuple):
        return -1
    nodes, lines = value
    for at, node in enumerate(nodes):
        if not is_node(node) or (at > 0 and node <= nodes[at - 1]):
            return at
    for at, pair in enumerate(lines):
        if not is_priced_line(pair, nodes) or (at > 0 and pair[0] <= lines[at - 1][0]):
            return len(nodes) + at
    return None


def is_graph(value):
    """Whether a value is a graph."""
    return graph_fault(value) is None


def need_graph(value):
    """Raise InvalidGraph unless a value is a graph."""
    at = graph_fault(value)
    if at is not None:
        raise InvalidGraph(at)


def deed_fault(value):
    """What InvalidDeed tells of a value; None for a deed."""
    if not isinstance(value, tuple) or not value or not isinstance(value[0], str):
        return -1
    if len(value) != DEED_SIZES.get(value[0], -1):
        return -1
    if value[0] == "node" or value[0] == "drop":
        return None if is_node(value[1]) else 1
    if not is_line(value[1]):
        return 1
    return None if value[0] == "cut" or is_price(value[2]) else 2


def is_deed(value):
    """Whether a value is a deed."""
    return deed_fault(value) is None


def need_deed(value):
    """Raise InvalidDeed unless a value is a deed."""
    at = deed_fault(value)
    if at is not None:
        raise InvalidDeed(at)


def need_batch(value):
    """Raise InvalidDeed unless a value is a sequence of deeds."""
    if not is_sequence(value):
        raise InvalidDeed(-1)
    for at, deed in enumerate(value):
        if not is_deed(deed):
            raise InvalidDeed(at)


def ascending(things):
    """A tuple of unlike things, ascending."""
    return tuple(sorted(set(things)))


def without_node(graph, node):
    """The graph without a node and all lines that begin or end there."""
    nodes = tuple([other for other in graph[0] if other != node])
    return nodes, tuple([pair for pair in graph[1] if pair[0][0] != node and pair[0][2] != node])


def done(graph, deed):
    """The graph behind a deed."""
    nodes, lines = graph
    if deed[0] == "node":
        return ascending(nodes + (deed[1],)), lines
    if deed[0] == "drop":
        return without_node(graph, deed[1])
    others = tuple([pair for pair in lines if pair[0] != deed[1]])
    if deed[0] == "cut":
        return nodes, others
    return ascending(nodes + (deed[1][0], deed[1][2])), ascending(others + ((deed[1], deed[2]),))


def all_done(graph, batch):
    """The graph behind all deeds of a batch, in their order."""
    for deed in batch:
        graph = done(graph, deed)
    return graph


def prices_of(graph):
    """A dict of the prices of the lines."""
    return {line: price for line, price in graph[1]}


def line_price(graph, line):
    """The price of a line that is there."""
    for other, price in graph[1]:
        if other == line:
            return price
    raise NoName(line)


def kinds_of(graph):
    """The kinds of the lines, ascending."""
    return ascending([line[1] for line, _ in graph[1]])


def begin_of(line, way):
    """The node at which a line begins when it is gone along in a way."""
    return line[0] if way == 1 else line[2]


def end_of(line, way):
    """The node at which a line ends when it is gone along in a way."""
    return begin_of(line, -way)


def lines_at(graph, node, kind, way):
    """The lines of a kind, or of each for None, that begin (way 1) or end (way -1) at a node."""
    lines = [line for line, _ in graph[1] if begin_of(line, way) == node]
    return tuple([line for line in lines if kind is None or line[1] == kind])


def next_nodes(graph, node, kind, way):
    """The other ends of these lines, ascending."""
    return ascending([end_of(line, way) for line in lines_at(graph, node, kind, way)])


def steps_at(graph, node):
    """The steps along lines, or against them, that begin at a node, ascending."""
    return ascending([(line, way) for line, _ in graph[1] for way in (1, -1) if begin_of(line, way) == node])


def turned_graph(graph):
    """The graph with all lines the other way."""
    return graph[0], ascending([((line[2], line[1], line[0]), price) for line, price in graph[1]])


def part_graph(graph, nodes):
    """The nodes that are among some, and the lines between them."""
    staying = tuple([node for node in graph[0] if node in nodes])
    return staying, tuple([pair for pair in graph[1] if pair[0][0] in staying and pair[0][2] in staying])


def are_new_names(graph, names):
    """Whether a value is a tuple of pairs of each node, ascending, and a new one, all unlike."""
    if not is_tuple_of(names, len(graph[0])):
        return False
    for node, pair in zip(graph[0], names):
        if not is_tuple_of(pair, 2) or pair[0] != node or not is_node(pair[1]):
            return False
    return len({pair[1] for pair in names}) == len(names)


def renamed_graph(graph, names):
    """The graph with other nodes, told by pairs of an old and a new one."""
    if not are_new_names(graph, names):
        raise InvalidGraph(-1)
    new = {old: other for old, other in names}
    lines = [((new[line[0]], line[1], new[line[2]]), price) for line, price in graph[1]]
    return ascending(list(new.values())), ascending(lines)


def between(graph, other):
    """A batch that leads from one graph to another."""
    ahead, behind = prices_of(graph), prices_of(other)
    drops = [("drop", node) for node in graph[0] if node not in other[0]]
    cuts = [("cut", line) for line in ahead if line not in behind and line[0] in other[0] and line[2] in other[0]]
    lines = [("line", line, price) for line, price in other[1] if ahead.get(line) != price]
    ends = [line[0] for _, line, _ in lines] + [line[2] for _, line, _ in lines]
    nodes = [("node", node) for node in other[0] if node not in graph[0] and node not in ends]
    return tuple(drops + cuts + nodes + lines)


def backward(graph, batch):
    """A batch that leads back from the graph behind a batch."""
    return between(all_done(graph, batch), graph)
