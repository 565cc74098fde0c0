import itertools
import random
import time

from spelledways.errors import InvalidText
from spelledways.formulas import is_question, question_size
from spelledways.questiontext import question_text, read_question
from tests.common import Case, nested, odd_values
from tests.test_formulas import random_question

LEADS = {"star": "*", "some": "!", "maybe": "?"}
SIGNS = "a+_.[]*<12,> "


def plain_text(question):
    """The text, put together part by part."""
    form = question[0]
    if form == "one":
        return question[1] + "?+-"[question[2]]
    if form == "any":
        return "_" + "?+-"[question[1]]
    if form == "empty":
        return "."
    if form == "times":
        return "<" + str(question[2]) + "," + str(question[3]) + ">" + plain_text(question[1])
    if form in LEADS:
        return LEADS[form] + plain_text(question[1])
    inner = " ".join(plain_text(part) for part in question[1])
    return "[" + inner + "]" if form == "row" else "{" + inner + "}"


def texts_of_leaves(most):
    """The texts, of the signs above, of questions without parts."""
    kinds = ["".join(kind) for many in range(1, 5) for kind in itertools.product("a12", repeat=many)]
    return {text for text in [kind + "+" for kind in kinds] + ["_+", ".", "[]"] if len(text) <= most}


def leads_of():
    return ["*"] + ["<" + low + "," + high + ">" for low in "12" for high in "12" if low <= high]


def whole_texts(most):
    """All texts of questions of at most so many of the signs above."""
    if most <= 0:
        return set()
    found = texts_of_leaves(most)
    for lead in leads_of():
        found |= {lead + text for text in whole_texts(most - len(lead))}
    return found | {"[" + text for text in ends_of_rows(most - 1)}


def ends_of_rows(most):
    """What may stand behind a bracket: texts of parts, and the end of the row."""
    if most <= 1:
        return set()
    found = {text + "]" for text in whole_texts(most - 1)}
    for text in whole_texts(most - 3):
        found |= {text + " " + rest for rest in ends_of_rows(most - 1 - len(text))}
    return found


def beginnings(most):
    """All strings of at most so many of the signs above with which the text of some question begins."""
    found = {text[:many] for text in texts_of_leaves(8) | set(leads_of()) for many in range(most + 1)}
    if most <= 0:
        return {""}
    for lead in leads_of():
        found |= {(lead + rest)[:most] for rest in (beginnings(most - len(lead)) if len(lead) < most else {""})}
    return {text for text in found | {"[" + rest for rest in beginnings_of_rows(most - 1)} if len(text) <= most}


def beginnings_of_rows(most):
    found = {text[:most] for text in beginnings(most) | {"]"}}
    for text in whole_texts(most):
        found |= {(text + "]")[:most]}
        if len(text) < most:
            found |= {text + " " + rest for rest in later_parts(most - len(text) - 1)}
    return found


def later_parts(most):
    """What may stand behind the blank ahead of a further part."""
    found = set(beginnings(most))
    for text in whole_texts(most):
        found |= {(text + "]")[:most]}
        if len(text) < most:
            found |= {text + " " + rest for rest in later_parts(most - len(text) - 1)}
    return found


class TextTest(Case):
    def test_each_form(self):
        bus, back = ("one", "bus", 1), ("one", "bus", -1)
        told = {
            "bus+": bus, "bus-": back, "_+": ("any", 1), "_-": ("any", -1), ".": ("empty",), "[]": ("row", ()), "{}": ("either", ()),
            "[bus+]": ("row", (bus,)), "[bus+ bus-]": ("row", (bus, back)), "{bus+ . _-}": ("either", (bus, ("empty",), ("any", -1))),
            "*bus+": ("star", bus), "!bus+": ("some", bus), "?bus+": ("maybe", bus), "<0,6>bus+": ("times", bus, 0, 6),
            "<2,5>_-": ("times", ("any", -1), 2, 5), "*!?<0,0>.": ("star", ("some", ("maybe", ("times", ("empty",), 0, 0)))),
            "[*bus+ bus+]": ("row", (("star", bus), bus)), "[{} [] *[{}]]": ("row", (("either", ()), ("row", ()), ("star", ("row", (("either", ()),))))),
            "0+": ("one", "0", 1), "zzzz-": ("one", "zzzz", -1), "1a2b+": ("one", "1a2b", 1),
        }
        for text, question in told.items():
            self.same(question_text(question=question), text)
            self.same(read_question(text=text), question)

    def test_there_and_back(self):
        rng = random.Random(301)
        for _ in range(400):
            question = random_question(rng, rng.randint(1, 14), kinds=("a", "bus", "0", "zz99"))
            text = question_text(question)
            self.same(text, plain_text(question))
            self.same(read_question(text), question)

    def test_all_short_texts(self):
        whole, begun = whole_texts(5), beginnings(5)
        self.assertTrue({"[. .]"} < whole and {"<1,2", "[*a12", "[.  "} & begun == {"<1,2", "[*a12"})
        read = 0
        for many in range(5):
            for signs in itertools.product(SIGNS, repeat=many):
                read += self.look_at("".join(signs), whole, begun)
        self.assertEqual(read, len([text for text in whole if len(text) < 5]))
        rng = random.Random(302)
        for _ in range(20000):
            self.look_at("".join(rng.choice(SIGNS) for _ in range(5)), whole, begun)

    def look_at(self, text, whole, begun):
        """Whether a text is read; else the error tells the longest beginning with which a question's text begins."""
        if text in whole:
            self.same(question_text(read_question(text)), text)
            return True
        at = max(many for many in range(len(text) + 1) if text[:many] in begun)
        self.told(InvalidText, at, read_question, text)
        return False

    def test_cut_anywhere_and_bent(self):
        rng = random.Random(303)
        for _ in range(120):
            text = question_text(random_question(rng, rng.randint(1, 10), kinds=("a", "bus2")))
            for many in range(len(text)):
                self.told(InvalidText, many, read_question, text[:many])
                self.told(InvalidText, many, read_question, text[:many] + "A" + text[many:])
                bent = text[:many] + rng.choice("a+-_.[]{}*!?<>0,6 ") + text[many + 1:]
                self.look_at_bent(bent)
            for end in (" ", "a", "+", "]", " a+", "\n", text):
                self.told(InvalidText, len(text), read_question, text + end)

    def look_at_bent(self, text):
        """It is read, or what is ahead of the wrong sign can be gone on from, and not with this sign."""
        try:
            question = read_question(text)
        except InvalidText as held:
            self.assertTrue(self.can_go_on(text[:held.at]), text)
            self.assertFalse(held.at < len(text) and self.can_go_on(text[:held.at + 1]), text)
        else:
            self.same(plain_text(question), text)

    def can_go_on(self, text):
        """Whether some text of a question begins so: each try puts the least behind it that closes all that is open."""
        open_ones = []
        for sign in text:
            if sign in "[{":
                open_ones.append({"[": "]", "{": "}"}[sign])
            elif sign in "]}" and open_ones:
                open_ones.pop()
        for end in ("", "+", "a+", ".", "0>.", "6>.", ",6>.", "0,0>.", ">."):
            try:
                read_question(text + end + "".join(open_ones[::-1]))
                return True
            except InvalidText:
                pass
        return False

    def test_wrong_signs(self):
        for text, at in (("", 0), (" ", 0), ("bus", 3), ("buses+", 4), ("buse+x", 5), ("abcde+", 4), ("bus+ ", 4), (" bus+", 0), ("bus +", 3), ("Bus+", 0),
                         ("bus*", 3), ("[", 1), ("[ ]", 1), ("[bus+", 5), ("[bus+ ", 6), ("[bus+  a+]", 6), ("[bus+ ]", 6), ("[bus+}", 5), ("[bus+]]", 6),
                         ("{a+]", 3), ("{a+", 3), ("*", 1), ("* a+", 1), ("<", 1), ("<7,7>a+", 1), ("<5,4>a+", 3), ("<00,1>a+", 2), ("<0,01>a+", 4),
                         ("<1,7>a+", 3), ("<1;2>a+", 2), ("<high,low>a+", 1), ("<-1,2>a+", 1), ("<1, 2>a+", 3), ("<1,2> a+", 5), ("<1,2>", 5), ("<1,2", 4),
                         ("+", 0), ("_", 1), ("__+", 1), ("_a+", 1), ("..", 1), (".+", 1), ("a+b+", 2), ("a+ b+", 2), ("[a+\nb+]", 3), ("a\u00e4+", 1), ("\u00b2+", 0),
                         (")", 0), ("[a+,b+]", 3), ("_+\n", 2), ("?", 1), ("!!", 2), ("[]a", 2), ("[[]", 3), ("[[] ]", 4), ("{[}", 2)):
            self.told(InvalidText, at, read_question, text)

    def test_any_value(self):
        for value in odd_values() + [("a+",), ["a+"], 1.5, ("one", "a", 1), nested(30, list)]:
            if not isinstance(value, str):
                self.told(InvalidText, -1, read_question, value)

    def test_long_and_deep_ones_in_good_time(self):
        started = time.time()
        for text in ("*" * 298 + "a+", "[" * 149 + "]" * 149, "<0,6>" * 59 + "abcd-", "[" + ". " * 148 + ".]", "{" * 149 + "." + "}" * 149):
            question = read_question(text)
            self.assertEqual(question_text(question), text)
            self.told(InvalidText, len(text) - 1, read_question, text[:-1])
        deep = ("any", 1)
        for _ in range(69):
            deep = ("maybe", deep)
        self.assertEqual(question_size(deep), 70)
        self.assertTrue(read_question(question_text(deep)) == deep)
        self.told(InvalidText, 300, read_question, "[" * 300)
        self.assertLess(time.time() - started, 2)
