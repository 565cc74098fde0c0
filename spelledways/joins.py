"""Patterns joined ask by ask, and sieved: nodes that can't stand at a place are struck."""

from spelledways.errors import InvalidSize
from spelledways.patterns import does_keep, pairs_kept, places_of
from spelledways.plain import is_number, is_tuple_of


def need_order(pattern, value):
    """Raise InvalidSize("order") unless a value is a tuple of all numbers of asks, each once."""
    many = len(pattern[1])
    if not is_tuple_of(value, many) or not all([is_number(at) and at < many for at in value]):
        raise InvalidSize("order")
    if len(set(value)) < many:
        raise InvalidSize("order")


def given(row, place, nodes):
    """The list of the rows that a row becomes when some place is given each of some nodes."""
    return [row[:place] + (node,) + row[place + 1:] for node in nodes]


def with_places(found, places, nodes):
    """The list of some rows in which the places that have no node yet are given each node."""
    for place in places:
        found = [longer for row in found for longer in (given(row, place, nodes) if row[place] is None else [row])]
    return found


def partial_rows(graph, pattern, order):
    """For each ask of an order the list of the rows that keep it and all ahead; None where no node is given yet."""
    need_order(pattern, order)
    tables = pairs_kept(graph, pattern)
    found = [(None,) * pattern[0]]
    levels = [found]
    for at in order:
        ask = pattern[1][at]
        found = [row for row in with_places(found, places_of(ask), graph[0]) if does_keep(ask, tables[at], row)]
        levels.append(found)
    return levels


def sizes_by(graph, pattern, order):
    """For each ask of an order how many partial rows there are of it and all ahead of it."""
    return tuple([len(found) for found in partial_rows(graph, pattern, order)[1:]])


def rows_by(graph, pattern, order):
    """The rows that keep all asks, found ask by ask in an order, ascending."""
    found = partial_rows(graph, pattern, order)[-1]
    return tuple(sorted(with_places(found, list(range(pattern[0])), graph[0])))


def joined_places(pattern, place):
    """The places that are joined to a place by some ask, ascending."""
    ends = [(ask[0], ask[2]) for ask in pattern[1] if len(places_of(ask)) == 2]
    others = [end for pair in ends if place in pair for end in pair if end != place]
    return sorted(set(others))


class Sieve:
    """The lots of a pattern in a graph, from those of all nodes on, and which nodes may be struck from them."""

    def __init__(self, graph, pattern):
        self._asks = list(zip(pattern[1], pairs_kept(graph, pattern)))
        self._many = pattern[0]
        self._lots = [list(graph[0]) for _ in range(pattern[0])]
        self._joined = [joined_places(pattern, place) for place in range(pattern[0])]

    def lots(self):
        """For each place the nodes that are not struck, ascending."""
        return tuple([tuple(lot) for lot in self._lots])

    def strike(self, place, node):
        """Strike a node at a place."""
        self._lots[place].remove(node)

    def reasons(self, place, node):
        """The list of the places that show that a node may be struck at a place: itself, or joined ones."""
        alone = [] if self._fits([place], self._row_with([(place, node)])) else [place]
        return alone + [other for other in self._joined[place] if not self._has_partner(place, node, other)]

    def is_right(self, value):
        """Whether a value is a triple of a place, a node that is there, and a place that shows why it may be struck."""
        if not is_tuple_of(value, 3) or not is_number(value[0]) or value[0] >= self._many:
            return False
        place, node, other = value
        if not isinstance(node, str) or node not in self._lots[place]:
            return False
        return is_number(other) and other in self.reasons(place, node)

    def _row_with(self, pairs):
        row = [None] * self._many
        for place, node in pairs:
            row[place] = node
        return tuple(row)

    def _fits(self, places, row):
        """Whether a row keeps all asks that have just these places, and (of one place) those between nodes."""
        for ask, pairs in self._asks:
            ends = sorted(set(places_of(ask)))
            if (ends == places or (len(places) == 1 and not ends)) and not does_keep(ask, pairs, row):
                return False
        return True

    def _has_partner(self, place, node, other):
        places = sorted([place, other])
        rows = [self._row_with([(place, node), (other, partner)]) for partner in self._lots[other]]
        return any([self._fits(places, row) for row in rows])


def struck(sifted):
    """Strike what can be struck, until nothing can; the list of the triples of a place, a node, and why."""
    found = []
    while True:
        many = len(found)
        for place, lot in enumerate(sifted.lots()):
            for node in lot:
                reasons = sifted.reasons(place, node)
                if reasons:
                    sifted.strike(place, node)
                    found.append((place, node, reasons[0]))
        if len(found) == many:
            return found


def sieve(graph, pattern):
    """The greatest lots in which each node keeps the asks of its place alone and has partners at the joined places."""
    sifted = Sieve(graph, pattern)
    struck(sifted)
    return sifted.lots()


def strikes(graph, pattern):
    """Triples of a place, a node, and a place that shows that it may be struck, which lead to the sieve."""
    return tuple(struck(Sieve(graph, pattern)))


def check_strikes(graph, pattern, value):
    """Whether a value is a tuple of such triples, each right when it comes."""
    if not isinstance(value, tuple):
        return False
    sifted = Sieve(graph, pattern)
    for triple in value:
        if not sifted.is_right(triple):
            return False
        sifted.strike(triple[0], triple[1])
    return True
