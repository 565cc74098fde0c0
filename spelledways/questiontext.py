"""Questions as texts."""

from spelledways.errors import InvalidText
from spelledways.formulas import MOST_TIMES
from spelledways.graphs import MOST_NAME_SIGNS, NAME_SIGNS

WAY_SIGNS = {"+": 1, "-": -1}
OPENED = {"[": "row", "{": "either"}
CLOSING = {"row": "]", "either": "}"}
LED = {"*": "star", "!": "some", "?": "maybe"}
LEADING = {"star": "*", "some": "!", "maybe": "?"}
BEGINNING = "[{*!?<._0123456789abcdefghijklmnopqrstuvwxyz"
TIMES = "0123456"


def way_sign(way):
    """The sign of a way."""
    return "+" if way == 1 else "-"


def pieces_of(question):
    """The list of what a question's text is put together of: strings, and the parts that stand directly in it."""
    form = question[0]
    if form == "one":
        return [f"{question[1]}{way_sign(question[2])}"]
    if form == "any":
        return [f"_{way_sign(question[1])}"]
    if form == "empty":
        return ["."]
    if form == "times":
        return [f"<{question[2]},{question[3]}>", question[1]]
    if form in LEADING:
        return [LEADING[form], question[1]]
    pieces = ["[" if form == "row" else "{"]
    for at, part in enumerate(question[1]):
        pieces.extend([" ", part] if at > 0 else [part])
    return pieces + [CLOSING[form]]


def question_text(question):
    """The text of a question."""
    told = []
    waiting = [question]
    while waiting:
        piece = waiting.pop()
        if isinstance(piece, str):
            told.append(piece)
        else:
            waiting.extend(pieces_of(piece)[::-1])
    return "".join(told)


class Reader:
    """Reads the text of a question sign by sign; the first sign that can't stand where it stands is wrong."""

    def __init__(self, text):
        self._text = text
        self._at = 0
        # Of each form that is begun: its word, the parts that were read, and what stands behind its part.
        self._begun = []

    def whole(self):
        """The question that the text tells."""
        question = None
        while question is None:
            question = self._closed(self._next_part())
        if self._at < len(self._text):
            raise InvalidText(self._at)
        return question

    def _take(self, signs):
        """The next sign, which has to be one of these."""
        if self._at == len(self._text) or self._text[self._at] not in signs:
            raise InvalidText(self._at)
        self._at += 1
        return self._text[self._at - 1]

    def _next_part(self):
        """The next part that has no parts; the forms that stand ahead of it are begun."""
        while True:
            sign = self._take(BEGINNING)
            if sign in OPENED:
                form = OPENED[sign]
                if self._text[self._at:self._at + 1] == CLOSING[form]:
                    self._at += 1
                    return form, ()
                self._begun.append((form, [], ()))
            elif sign in LED:
                self._begun.append((LED[sign], [], ()))
            elif sign == "<":
                self._begun.append(("times", [], self._bounds()))
            else:
                return self._plain_part(sign)

    def _plain_part(self, sign):
        if sign == ".":
            return ("empty",)
        if sign == "_":
            return "any", WAY_SIGNS[self._take("+-")]
        kind = sign
        while len(kind) < MOST_NAME_SIGNS:
            sign = self._take(NAME_SIGNS + "+-")
            if sign in WAY_SIGNS:
                return "one", kind, WAY_SIGNS[sign]
            kind = kind + sign
        return "one", kind, WAY_SIGNS[self._take("+-")]

    def _bounds(self):
        """The two numbers of a times."""
        low = int(self._take(TIMES))
        self._take(",")
        high = int(self._take(TIMES[low:MOST_TIMES + 1]))
        self._take(">")
        return low, high

    def _closed(self, part):
        """The whole question, if all that is begun ends behind a part; None if another part has to come."""
        while self._begun:
            form, parts, bounds = self._begun[-1]
            if form in CLOSING:
                parts.append(part)
                if self._take(" " + CLOSING[form]) == " ":
                    return None
                part = (form, tuple(parts))
            else:
                part = (form, part) + bounds
            self._begun.pop()
        return part


def read_question(text):
    """The question with this text; else InvalidText tells how far a text of some question begins so."""
    if not isinstance(text, str):
        raise InvalidText(-1)
    return Reader(text).whole()
