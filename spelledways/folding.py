"""Folds of words onto words: walks on the line that a word draws."""

from spelledways.fronts import Fronts, told_front
from spelledways.graphs import ascending
from spelledways.least import least_machine
from spelledways.moving import rows_of
from spelledways.plain import is_number, is_tuple_of


def line_graph(word):
    """The graph of one line for each letter of a word, from the node 0 on."""
    nodes = sorted([str(at) for at in range(len(word) + 1)])
    lines = []
    for at, (kind, way) in enumerate(word):
        ahead, behind = str(at), str(at + 1)
        lines.append(((ahead, kind, behind) if way == 1 else (behind, kind, ahead), 1))
    return tuple(nodes), tuple(sorted(lines))


def letters_from(onto, place):
    """The list of pairs of a letter and the place to which it leads on a word's line, by ascending places."""
    found = []
    if place > 0:
        kind, way = onto[place - 1]
        found.append(((kind, -way), place - 1))
    if place < len(onto):
        kind, way = onto[place]
        found.append(((kind, way), place + 1))
    return found


def is_fold(word, onto, value):
    """Whether a value is a fold of a word onto another one."""
    if not is_tuple_of(value, len(word) + 1):
        return False
    if not all([is_number(place) and place <= len(onto) for place in value]):
        return False
    if value[0] != 0 or value[-1] != len(onto):
        return False
    for at, (kind, way) in enumerate(word):
        if ((kind, way), value[at + 1]) not in letters_from(onto, value[at]):
            return False
    return True


def fold_of(word, onto):
    """The least fold of a word onto another one, or None."""
    # For each letter, the last one first, the places from which the end is reached by the letters from there on.
    lots = [{len(onto): True}]
    for kind, way in word[::-1]:
        last = lots[-1]
        lots.append({place: True for place in range(len(onto) + 1)
                     if next_place(onto, place, (kind, way), last) is not None})
    if 0 not in lots[-1]:
        return None
    places = [0]
    for at, (kind, way) in enumerate(word):
        places.append(next_place(onto, places[-1], (kind, way), lots[len(word) - at - 1]))
    return tuple(places)


def next_place(onto, place, letter, places):
    """The least of some places to which a letter leads from a place, or None."""
    for told, other in letters_from(onto, place):
        if told == letter and other in places:
            return other
    return None


def folds(word, onto):
    """Whether there is a fold of a word onto another one."""
    return fold_of(word, onto) is not None


def folding_moves(question, onto):
    """For each pair of a place on a word's line and a state the list of pairs of a letter and a pair behind it; and
    the pairs at which a word that the question spells is folded."""
    machine = least_machine(question, ascending([kind for kind, _ in onto]))
    rows = rows_of(machine)
    moves = {}
    for place in range(len(onto) + 1):
        letters = letters_from(onto, place)
        for state, row in enumerate(rows):
            moves[(place, state)] = [(told, (other, row[told])) for told, other in letters if told in row]
    return moves, [(len(onto), state) for state in machine.ends]


def steps_to(moves, goals):
    """A dict of the fewest moves from a pair to one of some goals."""
    ahead = {}
    for pair in moves:
        for _, other in moves[pair]:
            ahead.setdefault(other, []).append(pair)
    found = {goal: 0 for goal in goals}
    level = list(goals)
    while level:
        further = []
        for other in level:
            for pair in ahead.get(other, []):
                if pair not in found:
                    found[pair] = found[other] + 1
                    further.append(pair)
        level = further
    return found


def folded_word(question, onto):
    """The first word that a question spells and that folds onto a word, or None."""
    moves, goals = folding_moves(question, onto)
    numbers = steps_to(moves, goals)
    # The machine starts in state 0, as each least one does.
    if (0, 0) not in numbers:
        return None
    pairs = [(0, 0)]
    word = ()
    for left in range(numbers[(0, 0)] - 1, -1, -1):
        # One letter may lead up and down: all pairs behind one word are gone on from together.
        nearer = [move for pair in pairs for move in moves[pair] if numbers.get(move[1]) == left]
        letter = min([move[0] for move in nearer])
        pairs = ascending([move[1] for move in nearer if move[0] == letter])
        word = word + (letter,)
    return word


def front_of(question, kinds, word):
    """The front of the least machine of a question, over some kinds, behind a word."""
    fronts = Fronts(least_machine(question, kinds))
    front = fronts.first
    for kind, way in word:
        front = fronts.behind(front, (kind, way))
    return told_front(front)
