"""Walks along the lines of a graph, and the words that they spell."""

from spelledways.errors import InvalidSize, InvalidWalk, Refused
from spelledways.graphs import ascending, begin_of, end_of, is_line, is_way, lines_at, next_nodes, prices_of
from spelledways.plain import is_tuple_of


def step_ends(step):
    """The nodes at which a step begins and ends."""
    line, way = step
    return begin_of(line, way), end_of(line, way)


def is_step_from(prices, node, value):
    """Whether a value is a step that begins at a node, along one of the lines that have prices."""
    if not is_tuple_of(value, 2) or not is_line(value[0]) or not is_way(value[1]):
        return False
    return value[0] in prices and step_ends(value)[0] == node


def walk_fault(graph, value):
    """What InvalidWalk tells of a value; None for a walk of the graph."""
    if not is_tuple_of(value, 2) or value[0] not in graph[0] or not isinstance(value[1], tuple):
        return -1
    node, steps = value
    prices = prices_of(graph)
    for at, step in enumerate(steps):
        if not is_step_from(prices, node, step):
            return at
        node = step_ends(step)[1]
    return None


def need_walk(graph, value):
    """Raise InvalidWalk unless a value is a walk of the graph."""
    at = walk_fault(graph, value)
    if at is not None:
        raise InvalidWalk(at)


def is_walk(graph, value):
    """Whether a value is a walk of the graph."""
    return walk_fault(graph, value) is None


def walk_nodes(walk):
    """All nodes along a walk."""
    return (walk[0],) + tuple([step_ends(step)[1] for step in walk[1]])


def walk_end(walk):
    """The node at the end of a walk."""
    return walk_nodes(walk)[-1]


def walk_word(walk):
    """The letters of the steps of a walk."""
    return tuple([(line[1], way) for line, way in walk[1]])


def walk_price(graph, walk):
    """The sum of the prices of the steps of a walk."""
    prices = prices_of(graph)
    return sum([prices[line] for line, _ in walk[1]])


def walk_key(walk):
    """By this, walks from one node stand in order: the number of steps, and the steps."""
    return len(walk[1]), walk[1]


def turned_word(word):
    """The word that a walk spells on its way back."""
    return tuple([(kind, -way) for kind, way in word[::-1]])


def turned_walk(walk):
    """The walk back."""
    return walk_end(walk), tuple([(line, -way) for line, way in walk[1][::-1]])


def joined_walks(one, other):
    """The one walk, going on with the other."""
    if walk_end(one) != other[0]:
        raise Refused("apart")
    return one[0], one[1] + other[1]


def part_walk(walk, low, high):
    """The walk of the steps from the number low up to, without, high."""
    if low < 0 or low > len(walk[1]):
        raise InvalidSize("low")
    if high < low or high > len(walk[1]):
        raise InvalidSize("high")
    return walk_nodes(walk)[low], walk[1][low:high]


def nodes_with(graph, word):
    """For each place in a word, and behind it, the list of nodes from which what is left can be spelled."""
    lots = [list(graph[0])]
    for kind, way in word[::-1]:
        lots.append([node for node in graph[0] if meet(next_nodes(graph, node, kind, way), lots[-1])])
    return lots[::-1]


def meet(some, others):
    """Whether two rows have a thing in common."""
    return any([thing in others for thing in some])


def walks_of(graph, node, word):
    """All walks from a node that spell a word, ascending."""
    lots = nodes_with(graph, word)
    walks = [(node, ())] if node in lots[0] else []
    # Steps that can't be gone on from are left out at once: else far more walks may begin than are left in the end.
    for at, (kind, way) in enumerate(word):
        walks = [longer for walk in walks for longer in longer_walks(graph, walk, kind, way, lots[at + 1])]
    return tuple(sorted(walks))


def longer_walks(graph, walk, kind, way, nodes):
    """The walks with one step more, with this letter, that end at one of these nodes."""
    lines = lines_at(graph, walk_end(walk), kind, way)
    return [(walk[0], walk[1] + ((line, way),)) for line in lines if end_of(line, way) in nodes]


def ends_of(graph, nodes, word):
    """The ends of all walks from any of some nodes that spell a word, ascending."""
    ends = [node for node in graph[0] if node in nodes]
    for kind, way in word:
        ends = ascending([end for node in ends for end in next_nodes(graph, node, kind, way)])
    return tuple(ends)
