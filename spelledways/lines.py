"""Graphs as maps: each node has one key, each line two, so that the lines at a node stand together both ways."""

from spelledways.errors import InvalidGraph
from spelledways.graphs import all_done, done, is_kind, is_node, is_price
from spelledways.keys import is_map, writes_to
from spelledways.pages import scan
from spelledways.treewalks import built


def line_keys(line):
    """The two keys of a line: along it, and against it."""
    begin, kind, end = line
    return f"{begin}_{kind}_{end}", f"_{end}_{kind}_{begin}"


def map_of_graph(graph):
    """The map with the keys of all nodes and lines."""
    entries = [(node, 0) for node in graph[0]]
    entries.extend([(key, price) for line, price in graph[1] for key in line_keys(line)])
    return tuple(sorted(entries))


def line_of_key(key):
    """The line and the way that a key tells by its form, or None."""
    against = key.startswith("_")
    parts = key.split("_")[1:] if against else key.split("_")
    if len(parts) != 3 or not is_kind(parts[1]) or not is_node(parts[0]) or not is_node(parts[2]):
        return None
    if against:
        return (parts[2], parts[1], parts[0]), -1
    return (parts[0], parts[1], parts[2]), 1


def is_graph_entry(table, key, value):
    """Whether an entry is one of a node, or one of a line whose other key and ends are in the table."""
    if is_node(key):
        return value == 0
    told = line_of_key(key)
    if told is None or not is_price(value):
        return False
    line, _ = told
    if line[0] not in table or line[2] not in table:
        return False
    return all([table.get(line_key) == value for line_key in line_keys(line)])


def graph_of_map(value):
    """The graph with this map; InvalidGraph if there is none."""
    if not is_map(value):
        raise InvalidGraph(-1)
    table = {key: thing for key, thing in value}
    for at, entry in enumerate(value):
        if not is_graph_entry(table, entry[0], entry[1]):
            raise InvalidGraph(at)
    nodes = tuple([key for key in table if is_node(key)])
    lines = [(line_of_key(key), table[key]) for key in table if not is_node(key)]
    return nodes, tuple(sorted([(told[0], price) for told, price in lines if told[1] == 1]))


def is_graph_map(value):
    """Whether a value is the map of a graph."""
    try:
        graph_of_map(value)
    except InvalidGraph:
        return False
    return True


def map_changes(graph, other):
    """The keys whose values the maps of two graphs have unlike, with the value in the second, None for nothing."""
    return writes_to(map_of_graph(graph), map_of_graph(other))


def writes_of_deed(graph, deed):
    """What a deed changes in the map of a graph."""
    return map_changes(graph, done(graph, deed))


def writes_of_batch(graph, batch):
    """What a batch changes in the map of a graph."""
    return map_changes(graph, all_done(graph, batch))


def line_range(node, kind, way):
    """The range in which the keys of the lines of a kind (None: of each) at a node lie."""
    ahead = "" if way == 1 else "_"
    if kind is None:
        return f"{ahead}{node}_", f"{ahead}{node}_zzzz_zzzz"
    return f"{ahead}{node}_{kind}_", f"{ahead}{node}_{kind}_zzzz"


def tree_of_graph(most, graph):
    """Some root with the map of a graph."""
    return built(most, map_of_graph(graph))


def lines_in_tree(page, node, kind, way):
    """The lines of a kind (None: of each) that begin (way 1) or end (way -1) at a node, from a root with a map."""
    low, high = line_range(node, kind, way)
    # Keys and lines are ordered unlike: "_" stands behind the figures, the end of a kind ahead of them.
    return tuple(sorted([line_of_key(key)[0] for key, _ in scan(page, low, high)]))
