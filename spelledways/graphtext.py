"""Graphs, batches and walks as texts."""

from spelledways.errors import InvalidText
from spelledways.graphs import GREATEST_PRICE, is_deed, is_kind, is_line, is_node
from spelledways.waysof import step_ends

FIGURES = "0123456789"
WAYS = {"+": 1, "-": -1}
DEED_PARTS = {"node": 2, "drop": 2, "line": 5, "cut": 4}


def rows_text(rows):
    """The text with these rows."""
    return "\n".join(rows)


def rows_in(text):
    """The list of the rows of a text; the empty text has none."""
    return text.split("\n") if text else []


def line_row(line):
    """A line as it stands in a row."""
    return f"{line[0]} {line[1]} {line[2]}"


def graph_text(graph):
    """The text of a graph: the nodes without lines, then the lines."""
    ends = {end: True for line, _ in graph[1] for end in (line[0], line[2])}
    alone = [node for node in graph[0] if node not in ends]
    return rows_text(alone + [f"{line_row(line)} {price}" for line, price in graph[1]])


def deed_row(deed):
    """A deed as it stands in a row."""
    if deed[0] == "line":
        return f"line {line_row(deed[1])} {deed[2]}"
    return f"cut {line_row(deed[1])}" if deed[0] == "cut" else f"{deed[0]} {deed[1]}"


def batch_text(batch):
    """The text of a batch: a row for each deed."""
    return rows_text([deed_row(deed) for deed in batch])


def step_text(step):
    """What a step puts behind the text of a walk."""
    sign = "+" if step[1] == 1 else "-"
    return f" {step[0][1]}{sign} {step_ends(step)[1]}"


def walk_text(walk):
    """The text of a walk: its node, then the letter and the end of each step."""
    return walk[0] + "".join([step_text(step) for step in walk[1]])


def read_price(text):
    """The price with these figures, or None."""
    if not 1 <= len(text) <= len(str(GREATEST_PRICE)) or not all([sign in FIGURES for sign in text]):
        return None
    price = int(text)
    return price if str(price) == text and price <= GREATEST_PRICE else None


def read_graph_row(row):
    """The node, or the pair of a line and a price, that a row of a graph tells; None if it tells neither."""
    parts = row.split(" ")
    if len(parts) == 1:
        return row if is_node(row) else None
    if len(parts) != 4:
        return None
    line = (parts[0], parts[1], parts[2])
    price = read_price(parts[3])
    return (line, price) if is_line(line) and price is not None else None


def is_behind(nodes, lines, told):
    """Whether what a row tells may stand behind some nodes that stand alone, and some lines."""
    if isinstance(told, str):
        return not lines and (not nodes or nodes[-1] < told)
    line = told[0]
    if line[0] in nodes or line[2] in nodes:
        return False
    return not lines or lines[-1][0] < line


def need_text(value):
    """Raise InvalidText unless a value is a string."""
    if not isinstance(value, str):
        raise InvalidText(-1)


def read_graph(value):
    """The graph with this text."""
    need_text(value)
    nodes = []
    lines = []
    for at, row in enumerate(rows_in(value)):
        told = read_graph_row(row)
        if told is None or not is_behind(nodes, lines, told):
            raise InvalidText(at)
        if isinstance(told, str):
            nodes.append(told)
        else:
            lines.append(told)
    ends = [line[0] for line, _ in lines] + [line[2] for line, _ in lines]
    return tuple(sorted(set(nodes + ends))), tuple(lines)


def read_deed(row):
    """The deed that a row of a batch tells, or None."""
    parts = row.split(" ")
    if len(parts) != DEED_PARTS.get(parts[0], 0):
        return None
    if len(parts) == 2:
        deed = (parts[0], parts[1])
    else:
        deed = (parts[0], (parts[1], parts[2], parts[3]))
    if parts[0] == "line":
        deed = deed + (read_price(parts[4]),)
    return deed if is_deed(deed) else None


def read_batch(value):
    """The batch with this text."""
    need_text(value)
    deeds = []
    for at, row in enumerate(rows_in(value)):
        deed = read_deed(row)
        if deed is None:
            raise InvalidText(at)
        deeds.append(deed)
    return tuple(deeds)


def read_step(node, letter, end):
    """The step from a node that a letter and the node at its end tell, or None."""
    kind = letter[:-1]
    if letter[-1:] not in WAYS or not is_kind(kind) or not is_node(end):
        return None
    way = WAYS[letter[-1:]]
    return ((node, kind, end) if way == 1 else (end, kind, node)), way


def read_walk(value):
    """The walk with this text, of whatever graph."""
    need_text(value)
    parts = value.split(" ")
    if len(parts) % 2 == 0 or not is_node(parts[0]):
        raise InvalidText(0)
    steps = []
    node = parts[0]
    for letter, end in zip(parts[1::2], parts[2::2]):
        step = read_step(node, letter, end)
        if step is None:
            raise InvalidText(0)
        steps.append(step)
        node = end
    return parts[0], tuple(steps)
