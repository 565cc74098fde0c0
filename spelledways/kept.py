"""A question that is kept up while its graph changes: only what a change touches is looked for anew."""

from spelledways.distances import changed_field, kept_machine, kept_moves
from spelledways.fields import doubt_in, field_of, first_walk, mended_in, nearer_in, nearest
from spelledways.formulas import need_question
from spelledways.graphs import all_done, ascending, need_batch, need_graph, prices_of
from spelledways.watchers import effect_of


def lines_apart(graph, other):
    """The list of the lines of a graph that another one does not have."""
    lines = prices_of(other)
    return [line for line, _ in graph[1] if line not in lines]


def lines_kept(graph, other):
    """The second graph with just those of its lines that the first one has, too."""
    lines = prices_of(graph)
    return other[0], tuple([pair for pair in other[1] if pair[0] in lines])


def triples(node, numbers):
    """The list of the triples of a node and each place of a field, with its number."""
    return [(node, place, numbers[place]) for place in numbers]


class Turn:
    """What leads from the fields of one graph to those of another one: first lines go, then lines come."""

    def __init__(self, graph, other, question, machine):
        self.moves = kept_moves(other, question, machine)
        self._middle = kept_moves(lines_kept(graph, other), question, machine)
        self._lost = self._middle.along(lines_apart(graph, other))
        self._gained = self.moves.along(lines_apart(other, graph))

    def field_behind(self, numbers):
        """The places of a field that are in doubt, with their numbers; those that come nearer; and the new field."""
        doubt = doubt_in(numbers, self._middle, self._lost)
        if doubt:
            numbers = changed_field(numbers, doubt, mended_in(numbers, self._middle, doubt))
        near = nearer_in(numbers, self.moves, self._gained)
        if near:
            numbers = changed_field(numbers, near, near)
        return doubt, near, numbers


class Kept:
    """A question kept up: for each node of the graph its field, and the nodes to which it is joined."""

    def __init__(self, graph, question):
        need_graph(graph)
        need_question(question)
        self._graph = graph
        self._question = question
        self._machine = kept_machine(question)
        self._moves = kept_moves(graph, question, self._machine)
        self._fields = {}
        self._joined = {}
        self._touched = ((), ())
        for node in graph[0]:
            self._put_field(node, self._field_anew(node))

    def graph(self):
        """The graph of now."""
        return self._graph

    def pairs(self):
        """The pairs of nodes joined by a walk that spells the question, ascending."""
        return tuple([(node, other) for node in self._graph[0] for other in self._joined[node]])

    def touched(self):
        """What the last change put in doubt, and what it brought nearer: triples of a node, a place and its number."""
        return self._touched

    def change(self, batch):
        """Do the deeds of a batch; return the pairs that came, and those that went."""
        need_batch(batch)
        pairs = self.pairs()
        other = all_done(self._graph, batch)
        turn = Turn(self._graph, other, self._question, self._machine)
        self._graph = other
        self._moves = turn.moves
        going = [node for node in self._fields if node not in other[0]]
        for node in going:
            del self._fields[node], self._joined[node]
        doubts, nears = [], []
        for node in other[0]:
            doubt, near = self._follow(node, turn)
            doubts.extend(triples(node, doubt))
            nears.extend(triples(node, near))
        self._touched = tuple(sorted(doubts)), tuple(sorted(nears))
        return effect_of(pairs, self.pairs())

    def far(self, one, other):
        """The fewest steps of a walk between two nodes that spells the question, or None."""
        return nearest(self._fields.get(one, {}), self._ends_at(other))

    def walk(self, one, other):
        """The first, in order, of these walks, or None."""
        return first_walk(self._moves, self._fields.get(one, {}), self._ends_at(other))

    def paper(self, one, other):
        """None if there is such a walk; else the places of the first node's field, which show that there is none."""
        if self.far(one, other) is not None:
            return None
        return tuple(sorted(self._fields.get(one, {})))

    def _ends_at(self, node):
        return [(node, state) for state in self._machine.ends]

    def _field_anew(self, node):
        return field_of(self._moves, [(node, self._machine.start)])

    def _put_field(self, node, numbers):
        self._fields[node] = numbers
        ends = {state: True for state in self._machine.ends}
        self._joined[node] = ascending([place[0] for place in numbers if place[1] in ends])

    def _follow(self, node, turn):
        """Take the field of a node along with the graph; return what is in doubt, and what is near."""
        if node not in self._fields:
            self._put_field(node, self._field_anew(node))
            return {}, self._fields[node]
        doubt, near, numbers = turn.field_behind(self._fields[node])
        if doubt or near:
            self._put_field(node, numbers)
        return doubt, near
