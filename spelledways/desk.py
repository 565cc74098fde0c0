"""A desk: a store to which commands are said, the texts of calls."""

from spelledways.errors import InvalidCommand, InvalidText
from spelledways.formulas import need_question
from spelledways.graphs import is_node
from spelledways.graphtext import FIGURES, batch_text, read_deed
from spelledways.plain import is_name, is_sequence
from spelledways.questiontext import question_text, read_question
from spelledways.running import behind_call, run
from spelledways.store import Store

MOST_FIGURES = 40
# For each word what stands behind it.
SHAPES = {
    "graph": "reader", "broken_by": "batch", "change": "batch", "undo": "nothing", "redo": "nothing", "look": "nothing",
    "leave": "number", "ask": "question", "walk": "ask", "shut": "ask", "keep": "named", "kept": "name",
    "let_go": "name", "names": "nothing", "forbid": "named", "allow": "name", "rules": "nothing", "watch": "name",
    "heard": "number", "unwatch": "number", "sync": "nothing", "draw": "nothing", "settle": "nothing",
    "sure": "nothing", "cut": "numbers",
}


def reader_pieces(number):
    """What tells a reader, or now."""
    return [] if number is None else [f"@{number}"]


def ask_pieces(ask):
    """What tells an ask."""
    one, question, other = ask
    return ["_" if one is None else one, "_" if other is None else other, question_text(question)]


def batch_pieces(batch):
    """What tells a batch."""
    return [batch_text(batch).replace("\n", " | ")] if batch else []


def pieces_of(call):
    """The list of what stands behind the word in a call's text."""
    shape = SHAPES[call[0]]
    if shape == "reader":
        return reader_pieces(call[1])
    if shape == "batch":
        return batch_pieces(call[1])
    if shape == "question":
        return reader_pieces(call[2]) + [question_text(call[1])]
    if shape == "ask":
        return reader_pieces(call[2]) + ask_pieces(call[1])
    if shape == "named":
        return [call[1], question_text(call[2])]
    if shape == "numbers":
        return [str(number) for number in call[1]]
    return [str(thing) for thing in call[1:]]


def call_text(call):
    """The text of a call, or a cut, with right things in it."""
    return " ".join([call[0]] + pieces_of(call))


def number_in(text):
    """The number with these figures."""
    if not 1 <= len(text) <= MOST_FIGURES or not all([sign in FIGURES for sign in text]):
        raise InvalidCommand()
    return int(text)


def question_in(text):
    """The question with this text."""
    try:
        return read_question(text)
    except InvalidText:
        raise InvalidCommand() from None


def name_in(text):
    """The text, if it is a name."""
    if not is_name(text):
        raise InvalidCommand()
    return text


def end_in(text):
    """The node with this text; None for `_`."""
    if text != "_" and not is_node(text):
        raise InvalidCommand()
    return None if text == "_" else text


def batch_in(text):
    """The batch with this text."""
    deeds = [read_deed(row) for row in text.split(" | ")] if text else []
    if None in deeds:
        raise InvalidCommand()
    return tuple(deeds)


def reader_in(text):
    """The number of the reader, or None, with which a text begins, and what stands behind it."""
    if not text.startswith("@"):
        return None, text
    told, _, rest = text.partition(" ")
    return number_in(told[1:]), rest


def ask_in(text):
    """The ask with this text."""
    one, _, behind = text.partition(" ")
    other, _, question = behind.partition(" ")
    return end_in(one), question_in(question), end_in(other)


def arguments_in(shape, text):
    """The arguments that what stands behind a word tells."""
    if shape == "nothing":
        return ()
    if shape == "number":
        return (number_in(text),)
    if shape == "numbers":
        return (tuple([number_in(part) for part in text.split(" ")]),)
    if shape == "name":
        return (name_in(text),)
    if shape == "batch":
        return (batch_in(text),)
    if shape == "named":
        name, _, question = text.partition(" ")
        return name_in(name), question_in(question)
    number, rest = reader_in(text)
    if shape == "reader":
        return (number,)
    return (ask_in(rest) if shape == "ask" else question_in(rest)), number


def read_call(value):
    """The call, or the cut, with this text."""
    if not isinstance(value, str):
        raise InvalidCommand()
    word, _, rest = value.partition(" ")
    if word not in SHAPES:
        raise InvalidCommand()
    call = (word,) + arguments_in(SHAPES[word], rest)
    # Each call has just one text: so a blank too much, a needless 0, or what was not read, is seen here.
    if call_text(call) != value or (word == "cut" and len(call[1]) != 3):
        raise InvalidCommand()
    return call


class Desk:
    """A store, its only attribute, to be looked at alone, and the commands that were done on it."""

    def __init__(self, start=((), (), ())):
        self.store = Store(start)
        self._said = []

    def say(self, line):
        """Do a command; return its outcome. A cut opens the store again on what it leaves."""
        self.store, outcome = behind_call(self.store, read_call(line))
        self._said.append(line)
        return outcome

    def said(self):
        """All commands that were done, in their order."""
        return tuple(self._said)

    def why(self, ask, number=None):
        """The sheet for an ask: the first walk that answers it, or, if none does, a shut set."""
        walk = self.store.walk(ask, number)
        question = (self.store.graph(number), ask)
        if walk is not None:
            return "walk", question, walk
        return "shut", question, self.store.shut(ask, number)

    def shown(self, question, number=None):
        """Such sheets for the asks with all pairs of nodes, in the order of the pairs."""
        nodes = self.store.graph(number)[0]
        need_question(question)
        return tuple([self.why((one, question, other), number) for one in nodes for other in nodes])


def run_lines(lines):
    """What `run` tells of the calls of some commands."""
    if not is_sequence(lines):
        raise InvalidCommand()
    return run([read_call(line) for line in lines])
