"""Pins: names for snapshots, and what it costs to keep them."""

from spelledways.errors import InvalidSize, NoName, Refused
from spelledways.freeing import Keeper, gone
from spelledways.graphs import ascending
from spelledways.lines import graph_of_map, is_graph_map
from spelledways.plain import is_name, is_number
from spelledways.search import answers
from spelledways.versions import in_span, spans
from spelledways.watchers import all_effects, effect_of


class Pins:
    """A keeper, to be looked at alone, with names for its snapshots."""

    def __init__(self):
        self.keeper = Keeper()
        self._numbers = {}

    def commit(self, writes):
        """Add versions; return their stamp, and what goes."""
        return self.keeper.commit(writes)

    def pin(self, name, stamp=None):
        """Give a name to a live stamp, or to now; return the stamp."""
        if not is_name(name):
            raise InvalidSize("name")
        if name in self._numbers:
            raise Refused("name")
        self._numbers[name] = self.keeper.begin(stamp)
        return self.stamp_of(name)

    def unpin(self, name):
        """Take a name away; return what goes."""
        number = self._number_of(name)
        del self._numbers[name]
        return self.keeper.close(number)

    def stamp_of(self, name):
        """The stamp of a name."""
        return self.keeper.snapshots.stamp_of(self._number_of(name))

    def names(self):
        """The names that are pinned, ascending."""
        return tuple(sorted(self._numbers))

    def read(self, name, key):
        """The value of a key at a name's stamp, or None."""
        return self.keeper.read(self._number_of(name), key)

    def scan(self, name, low=None, high=None):
        """The entries in a range at a name's stamp."""
        return self.keeper.scan(self._number_of(name), low, high)

    def _number_of(self, name):
        if not isinstance(name, str) or name not in self._numbers:
            raise NoName(name)
        return self._numbers[name]


def graph_of(pins, name):
    """The graph whose map a name tells."""
    entries = pins.scan(name)
    if not is_graph_map(entries):
        raise Refused("graph")
    return graph_of_map(entries)


def asked(pins, name, question):
    """The pairs of nodes that a question joins in the graph of a name."""
    return answers(graph_of(pins, name), question)


def effect_between(pins, one, other, question):
    """What came to the answers of a question, and what went, from one name to another."""
    pairs = asked(pins, one, question)
    return effect_of(pairs, asked(pins, other, question))


def added_effects(first, second):
    """The effect of two effects, one behind the other."""
    return all_effects((first, second))


def cost(pins, names):
    """The pairs of a key and a version that would go if just these names were unpinned, ascending."""
    for name in names:
        pins.stamp_of(name)
    stamps = [pins.stamp_of(name) for name in pins.names() if name not in names]
    return gone(pins.keeper.versions.rows(), ascending(stamps))


def held_by(pins, key):
    """For each version of a key that is there the pair of it and the names that see it."""
    row = pins.keeper.versions.row(key)
    stamps = [(name, pins.stamp_of(name)) for name in pins.names()]
    lots = [tuple([name for name, stamp in stamps if in_span(span, stamp)]) for span in spans(row)]
    return tuple(zip(row, lots))


def value_spans(rows):
    """The list of the spans of all versions with a value."""
    found = []
    for _, row in rows:
        found.extend([span for version, span in zip(row, spans(row)) if version[1] is not None])
    return found


def values_kept(rows, stamps, now):
    """How many versions with a value are seen by one of these stamps, or by now."""
    some = list(stamps) + [now]
    return len([span for span in value_spans(rows) if any([in_span(span, stamp) for stamp in some])])


def added_values(found, stamps, now):
    """A dict that tells, for each pair of stamps' places, how many spans the second one sees that the first one, and
    now, do not see; the first one is -1 for none."""
    hidden = [span for span in found if not in_span(span, now)]
    table = {}
    for at, stamp in enumerate(stamps):
        lots = [span for span in hidden if in_span(span, stamp)]
        table[(-1, at)] = len(lots)
        for ahead in range(at):
            table[(ahead, at)] = len([span for span in lots if not in_span(span, stamps[ahead])])
    return table


def thinned(rows, stamps, now, many):
    """Of all tuples of so many of these stamps the least one of those that keep the fewest values."""
    if not is_number(many) or many > len(stamps):
        raise InvalidSize("many")
    table = added_values(value_spans(rows), stamps, now)
    # For each place (-1 ahead of all) the fewest values that so many stamps behind it add. A span is seen by
    # neighbours: so what a stamp adds hangs on the last one ahead alone.
    levels = [{at: 0 for at in range(len(stamps))}]
    for left in range(1, many + 1):
        fewest = {}
        for ahead in range(-1, len(stamps) - left):
            sums = [table[(ahead, at)] + levels[-1][at] for at in range(ahead + 1, len(stamps) - left + 1)]
            fewest[ahead] = min(sums)
        levels.append(fewest)
    chosen = []
    ahead = -1
    for left in range(many, 0, -1):
        places = list(range(ahead + 1, len(stamps) - left + 1))
        ahead = [at for at in places if table[(ahead, at)] + levels[left - 1][at] == levels[left][ahead]][0]
        chosen.append(stamps[ahead])
    return tuple(chosen)
