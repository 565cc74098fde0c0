"""Maps that were made of one map, put together; and writes put on another map than that on which they were made."""

from spelledways.asof import map_at, needed, written
from spelledways.errors import Refused
from spelledways.keys import writes_to
from spelledways.lines import graph_of_map, is_graph_map, map_of_graph


def clashes(base, one, other):
    """The keys for which both maps have something else than their base, and not the same, ascending."""
    first = {key: value for key, value in writes_to(base, one)}
    second = {key: value for key, value in writes_to(base, other)}
    return tuple([key for key in first if key in second and first[key] != second[key]])


def merged(base, one, other):
    """The map that has what either changed in their base."""
    if clashes(base, one, other):
        raise Refused("clash")
    return written(other, writes_to(base, one))


def merged_graphs(base, one, other):
    """The graph that has what either changed in their base."""
    entries = merged(map_of_graph(base), map_of_graph(one), map_of_graph(other))
    # One side may have dropped a node to which the other one led a line.
    if not is_graph_map(entries):
        raise Refused("clash")
    return graph_of_map(entries)


def map_of_now(pins):
    """The map of now."""
    versions = pins.keeper.versions
    return map_at(versions, versions.now)


def rebased(pins, name, writes):
    """Those of the writes, made on the map at a pin, that still change the map of now."""
    pinned = {key: value for key, value in pins.scan(name)}
    entries = map_of_now(pins)
    here = {key: value for key, value in entries}
    for key, value in writes:
        if here.get(key) != pinned.get(key) and here.get(key) != value:
            raise Refused("clash")
    return needed(entries, writes)


def back(pins, name):
    """The writes, as few as can be, that lead from the map of now to that at a pin."""
    entries = pins.scan(name)
    return writes_to(map_of_now(pins), entries)
