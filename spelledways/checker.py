"""Sheets: what shows an answer, and can be looked over without finding it."""

from spelledways.counts import check_round, round_of
from spelledways.distances import check_field, field
from spelledways.errors import InvalidAsk, InvalidPattern, InvalidQuestion, InvalidSize, NoName, Refused
from spelledways.files import is_disk
from spelledways.formulas import is_question, need_kinds, spells, wide_kinds
from spelledways.graphs import is_graph, is_node
from spelledways.joins import check_strikes, strikes
from spelledways.keys import is_map
from spelledways.least import check_fewest, fewest_paper
from spelledways.lines import map_of_graph, tree_of_graph
from spelledways.pages import GREATEST_MOST, LEAST_MOST, entries, is_root
from spelledways.patterns import check_lacking, check_row, is_row, lacking, need_pattern, row_walks
from spelledways.places import answers_ask, need_ask
from spelledways.plain import is_number, is_tuple_of
from spelledways.prices import check_heights, heights_for
from spelledways.records import put_image
from spelledways.recovery import recover
from spelledways.search import walk_for
from spelledways.shut import check_shut, shut_set
from spelledways.spelling import parting_word
from spelledways.within import check_loose, check_within, is_word, loose_word, within_paper


def is_ask(value):
    """Whether a value is an ask."""
    try:
        need_ask(value)
    except InvalidAsk:
        return False
    except InvalidQuestion:
        return False
    return True


def is_pattern(value):
    """Whether a value is a pattern."""
    try:
        need_pattern(value)
    except InvalidPattern:
        return False
    return True


def are_kinds(value):
    """Whether a value is an ascending sequence of unlike kinds."""
    try:
        need_kinds(value)
    except InvalidSize:
        return False
    return True


def is_most(value):
    """Whether a value may be the most of a tree."""
    return is_number(value) and LEAST_MOST <= value <= GREATEST_MOST


# For each kind of sheets what things its questions have.
SHAPES = {
    "walk": ("graph", "ask"), "shut": ("graph", "ask"), "round": ("graph", "ask"),
    "heights": ("graph", "ask", "number"), "field": ("graph", "question", "node"),
    "parting": ("question", "question"), "fewest": ("question", "kinds"),
    "loose": ("question", "question"), "within": ("question", "question"), "row": ("graph", "pattern", "row"),
    "lacking": ("graph", "pattern", "row"), "strikes": ("graph", "pattern"), "tree": ("most", "graph"),
    "disk": ("number", "graph"),
}
CONTRARIES = {
    "walk": "shut", "shut": "walk", "loose": "within", "within": "loose", "row": "lacking", "lacking": "row",
}


def is_right_thing(shape, value):
    """Whether a value is what a shape tells; a row is looked at with its graph and its pattern."""
    if shape == "graph":
        return is_graph(value)
    if shape == "ask":
        return is_ask(value)
    if shape == "question":
        return is_question(value)
    if shape == "pattern":
        return is_pattern(value)
    if shape == "kinds":
        return are_kinds(value)
    if shape == "most":
        return is_most(value)
    if shape == "node":
        return is_node(value)
    return shape == "row" or is_number(value)


def is_right_question(word, value):
    """Whether a value is a right question of a kind of sheets."""
    shapes = SHAPES[word]
    if not is_tuple_of(value, len(shapes)):
        return False
    if not all([is_right_thing(shape, thing) for shape, thing in zip(shapes, value)]):
        return False
    return shapes[-1] != "row" or is_row(value[0], value[1], value[2])


def holds_of_graph(word, question, value):
    """Whether a value is a right sheet of a kind for a question whose first thing is a graph."""
    graph, told = question[:2]
    if word == "walk":
        return answers_ask(graph, told, value)
    if word == "shut":
        return check_shut(graph, told, value)
    if word == "round":
        return check_round(graph, told, value)
    if word == "strikes":
        return check_strikes(graph, told, value)
    last = question[2]
    if word == "heights":
        return check_heights(graph, told, last, value)
    if word == "field":
        return check_field(graph, told, last, value)
    return check_row(graph, told, last, value) if word == "row" else check_lacking(graph, told, last, value)


def holds_of_question(word, question, value):
    """Whether a value is a right sheet of a kind for a question whose first thing is a question."""
    one, other = question
    if word == "parting":
        return is_word(value) and spells(one, value) != spells(other, value)
    if word == "fewest":
        return check_fewest(one, other, value)
    return check_loose(one, other, value) if word == "loose" else check_within(one, other, value)


def is_tree_of(most, graph, value):
    """Whether a value is a root with the map of a graph."""
    if not is_root(most, value):
        return False
    # The things of a root are not looked at as such: True is not the price 1.
    told = entries(value)
    return is_map(told) and told == map_of_graph(graph)


def is_disk_of(stamp, graph, value):
    """Whether a value is a disk that tells a stamp and the map of a graph."""
    return is_disk(value) and recover(value)[:2] == (stamp, map_of_graph(graph))


def sheet_holds(word, question, value):
    """Whether a value is a right sheet of a kind for a right question."""
    if not isinstance(word, str) or word not in SHAPES or not is_right_question(word, question):
        return False
    if word == "tree":
        return is_tree_of(question[0], question[1], value)
    if word == "disk":
        return is_disk_of(question[0], question[1], value)
    if SHAPES[word][0] == "graph":
        return holds_of_graph(word, question, value)
    return holds_of_question(word, question, value)


def need_word(word):
    """Raise NoName unless a value is a kind of sheets."""
    if not isinstance(word, str) or word not in SHAPES:
        raise NoName(word)


def contrary(word):
    """The kind of which there is a right sheet just where there is none of this kind; None if there is no such kind."""
    need_word(word)
    return CONTRARIES.get(word)


def heights_sheet(graph, ask, price):
    """Heights in which no goal has a number below a price, or None."""
    heights = heights_for(graph, ask)
    # No heights have greater numbers: so if these are not right, none are.
    return heights if check_heights(graph, ask, price, heights) else None


def sheet_of_graph(word, question):
    """Some right sheet of a kind for a question whose first thing is a graph; None, or Refused, if there is none."""
    graph, told = question[:2]
    if word == "walk":
        return walk_for(graph, told)
    if word == "shut":
        return shut_set(graph, told)
    if word == "round":
        return round_of(graph, told)
    if word == "strikes":
        return strikes(graph, told)
    last = question[2]
    if word == "heights":
        return heights_sheet(graph, told, last)
    if word == "field":
        return field(graph, told, last)
    return row_walks(graph, told, last) if word == "row" else lacking(graph, told, last)


def sheet_of_question(word, question):
    """Some right sheet of a kind for a question whose first thing is a question; None, or Refused, if there is none."""
    one, other = question
    if word == "parting":
        return parting_word(one, other, wide_kinds(one, other))
    if word == "fewest":
        return fewest_paper(one, other)
    return loose_word(one, other) if word == "loose" else within_paper(one, other)


def some_sheet(word, question):
    """Some right sheet of a kind for a right question; None, or Refused, if there is none."""
    if word == "tree":
        return tree_of_graph(question[0], question[1])
    if word == "disk":
        return put_image(question[0], map_of_graph(question[1])), (), ()
    if SHAPES[word][0] == "graph":
        return sheet_of_graph(word, question)
    return sheet_of_question(word, question)


def sheet_for(word, question):
    """Some right sheet of a kind for a question, or None if there is none."""
    need_word(word)
    if not is_right_question(word, question):
        raise InvalidSize("question")
    try:
        return some_sheet(word, question)
    except Refused:
        return None
