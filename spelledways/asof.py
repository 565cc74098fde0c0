"""What stood at a stamp, and what writes lead from one stamp to another."""

from spelledways.keys import writes_to
from spelledways.versions import value_at


def readable_stamps(versions):
    """All stamps that can be read, ascending."""
    stamps = list(versions.stamps) + list(range(versions.since, versions.now + 1))
    return tuple(sorted(set(stamps)))


def map_at(versions, stamp):
    """The map of all entries at a stamp."""
    return versions.scan(None, None, stamp)


def writes_between(versions, one, other):
    """The writes, as few as can be, that lead from what stood at one stamp to what stood at another."""
    entries = map_at(versions, one)
    return writes_to(entries, map_at(versions, other))


def runs(versions, key):
    """The readable stamps in runs of neighbours with one value of a key: triples of the first, the last and it."""
    row = versions.row(key)
    found = []
    for stamp in readable_stamps(versions):
        value = value_at(row, stamp)
        if found and found[-1][2] == value:
            found[-1] = (found[-1][0], stamp, value)
        else:
            found.append((stamp, stamp, value))
    return tuple(found)


def written(entries, writes):
    """The map behind some writes."""
    table = {key: value for key, value in entries}
    for key, value in writes:
        table[key] = value
    return tuple([(key, table[key]) for key in sorted(table) if table[key] is not None])


def over(first, second):
    """The writes of both; for a key in both that of the second."""
    table = {key: value for key, value in first}
    for key, value in second:
        table[key] = value
    return tuple([(key, table[key]) for key in sorted(table)])


def undo(entries, writes):
    """The writes that lead back from the map behind some writes to the map ahead."""
    table = {key: value for key, value in entries}
    return tuple([(key, table.get(key)) for key, _ in writes])


def needed(entries, writes):
    """Those of some writes that change a map."""
    table = {key: value for key, value in entries}
    return tuple([(key, value) for key, value in writes if table.get(key) != value])
