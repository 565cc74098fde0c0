import itertools
import random
import unittest

from spelledways.errors import InvalidQuestion, InvalidSize
from spelledways.formulas import (is_question, kinds_in, letters_over, need_kinds, need_question, question_size, question_spread,
                                  spells, spells_empty, strange_kind, turned_question, wide_kinds)
from tests.common import Case, nested, odd_values

A, B = ("one", "a", 1), ("one", "b", -1)


def words_over(kinds, most):
    letters = [(kind, way) for kind in kinds for way in (-1, 1)]
    return [word for many in range(most + 1) for word in itertools.product(letters, repeat=many)]


def put_together(some, others, most):
    return {one + other for one in some for other in others if len(one) + len(other) <= most}


def language(question, kinds, most):
    """The set of all words over some kinds, of at most so many letters, that a question spells."""
    form = question[0]
    if form == "one":
        return {((question[1], question[2]),)} if most > 0 and question[1] in kinds else set()
    if form == "any":
        return {((kind, question[1]),) for kind in kinds} if most > 0 else set()
    if form == "either":
        return set().union(*(language(part, kinds, most) for part in question[1]))
    found = {()}
    if form == "row":
        for part in question[1]:
            found = put_together(found, language(part, kinds, most), most)
    if form in ("empty", "row"):
        return found
    inner = language(question[1], kinds, most)
    low, high = {"star": (0, most), "some": (1, most + 1), "maybe": (0, 1), "times": question[2:]}[form]
    powers = [{()}]
    for _ in range(high):
        powers.append(put_together(powers[-1], inner, most))
    return set().union(*powers[low:high + 1])


def random_question(rng, size, kinds=("a", "b")):
    """Some question with about so many parts."""
    if size <= 1:
        return rng.choice([("one", rng.choice(kinds), rng.choice([1, -1])), ("one", rng.choice(kinds), rng.choice([1, -1])),
                           ("any", rng.choice([1, -1])), ("empty",), ("row", ()), ("either", ())])
    form = rng.choice(["row", "row", "either", "either", "star", "some", "maybe", "times"])
    if form in ("row", "either"):
        many = rng.randint(1, 3)
        return (form, tuple(random_question(rng, (size - 1) // many, kinds) for _ in range(many)))
    part = random_question(rng, size - 1, kinds)
    if form == "times":
        low = rng.randint(0, 3)
        return (form, part, low, rng.choice([low, min(low + 1, 6), rng.randint(low, 4)]))
    return (form, part)


class FormsTest(Case):
    def test_right_questions(self):
        for value in (A, B, ("any", 1), ("any", -1), ("empty",), ("row", ()), ("either", ()), ("row", (A, B)), ("star", A), ("some", A),
                      ("maybe", ("either", (A,))), ("times", A, 0, 0), ("times", A, 6, 6), ("times", A, 0, 6), ("one", "zzzz", -1)):
            self.assertIsNone(need_question(value))
            self.assertIs(is_question(value), True)

    def test_wrong_forms(self):
        for value in [None, (), [], "one", ("one",), ("one", "a"), ("one", "a", 0), ("one", "a", True), ("one", "a", 2), ("one", "A", 1),
                      ("one", "abcde", 1), ("one", "", 1), ("one", "a", 1, 1), ["one", "a", 1], ("any",), ("any", 0), ("any", True),
                      ("any", 1, 1), ("any", None), ("any", "1"), ("empty", ()), ("row",), ("row", [A]), ("row", A, B), ("row", None),
                      ("either", [A]), ("either", "ab"), ("star",), ("star", A, A), ("some",), ("maybe", A, 1), ("times", A), ("times", A, 1),
                      ("times", A, 2, 1), ("times", A, -1, 1), ("times", A, 0, 7), ("times", A, True, 1), ("times", A, 0, True),
                      ("times", A, None, 1), ("times", A, 0, "1"), ("times", A, 1, 2, 3), ("times", A, False, 0), ("two", A), (("one",), "a", 1),
                      (1, "a", 1), ([], "a", 1), ("one", ["a"], 1), ("one", "a", [1]), ("one", "a", 1) * 2, ("Row", ())]:
            self.assertIs(is_question(value), False)
            self.told(InvalidQuestion, 0, need_question, value)
            self.told(InvalidQuestion, 1, need_question, ("star", value))
            self.told(InvalidQuestion, 3, need_question, ("row", (("maybe", A), value, None)))
        for value in odd_values():
            if not (isinstance(value, tuple) and len(value) == 2 and value[0] == "row"):
                self.told(InvalidQuestion, 0, need_question, value)
            self.assertIs(is_question(value), False)

    def test_the_first_wrong_part(self):
        bad = ("one", "A", 1)
        cases = [(("row", (A, bad)), 2), (("row", (("row", (A, A)), bad)), 4), (("either", (A, ("row", (A, bad)), bad)), 4),
                 (("times", bad, 2, 1), 0), (("times", bad, 1, 2), 1), (("row", (("star", ("star", bad)), None)), 3),
                 (("row", (("times", None, 3, 2), None)), 1), (("row", (A, ("either", ()), ("row", [bad]), bad)), 3),
                 (("some", ("maybe", ("times", ("any", 5), 0, 0))), 3), (("row", (None,) * 5), 1), (("row", nested(29, tuple)), 1)]
        for value, at in cases:
            self.told(InvalidQuestion, at, need_question, value)
            self.assertIs(is_question(value), False)
        for value in odd_values():
            with self.assertRaises(InvalidQuestion) as held:
                need_question(("row", (A, A, ("star", value))))
            self.assertTrue(held.exception.at >= 4)

    def test_numbers_of_parts_beside_a_walk(self):
        rng = random.Random(111)
        for _ in range(200):
            question = random_question(rng, 12)
            parts = self.plain_parts(question)
            self.assertIsNone(need_question(question))
            self.same(question_size(question), len(parts))
            self.same(kinds_in(question), tuple(sorted({part[1] for part in parts if part[0] == "one"})))
            at = rng.randrange(len(parts))
            self.told(InvalidQuestion, at, need_question, self.bent(question, [at]))

    def plain_parts(self, question):
        inner = question[1] if question[0] in ("row", "either") else question[1:2] if question[0] in (
            "star", "some", "maybe", "times") else ()
        return [question] + [part for one in inner for part in self.plain_parts(one)]

    def bent(self, question, left):
        """The question with a wrong thing in the place of the part with a number; `left` counts down to it."""
        left[0] -= 1
        if left[0] == -1:
            return ("one", "a", 7)
        if question[0] in ("row", "either"):
            return (question[0], tuple([self.bent(part, left) for part in question[1]]))
        if question[0] in ("star", "some", "maybe", "times"):
            return (question[0], self.bent(question[1], left)) + question[2:]
        return question

    def test_sizes_and_spreads(self):
        cases = [(A, 1, 1), (("any", 1), 1, 1), (("empty",), 1, 0), (("row", ()), 1, 0), (("row", (A, B, ("empty",))), 4, 2),
                 (("star", A), 2, 1), (("some", ("row", (A, A))), 4, 2), (("maybe", A), 2, 1), (("times", A, 2, 5), 2, 5),
                 (("times", ("times", ("either", (A, B)), 0, 3), 1, 2), 5, 12), (("times", A, 0, 0), 2, 0), (("either", (A, B)), 3, 2)]
        for question, size, spread in cases:
            self.same(question_size(question=question), size)
            self.same(question_spread(question=question), spread)
        deep = A
        for _ in range(69):
            deep = ("times", deep, 0, 6)
        self.same((question_size(deep), question_spread(deep), kinds_in(deep), is_question(deep)), (70, 6 ** 69, ("a",), True))
        self.same(kinds_in(question=("row", (("one", "x", 1), ("one", "0", 1), ("any", 1), ("one", "x", -1)))), ("0", "x"))
        self.same(kinds_in(("any", 1)), ())


class KindsTest(Case):
    def test_kinds(self):
        for value in ((), [], ("a",), ["a", "b"], ("0", "a", "a0", "b")):
            self.assertIsNone(need_kinds(value))
        for value in (None, "ab", ("A",), ("a", "a"), ("b", "a"), ["b", "a"], (1,), (None,), ("a", ["b"]), ("abcde",), ("",), True,
                      (("a",),), ("a", "b", "ab")):
            self.told(InvalidSize, "kinds", need_kinds, value)
        for value in odd_values():
            if value not in ((), [], ("a",), ("x", "y"), ("leaf",)):
                self.told(InvalidSize, "kinds", need_kinds, value)

    def test_letters(self):
        self.same(letters_over(()), ())
        self.same(letters_over(["a", "b"]), (("a", -1), ("a", 1), ("b", -1), ("b", 1)))
        self.same(letters_over(kinds=("0",)), (("0", -1), ("0", 1)))

    def test_strange_kinds(self):
        self.same(strange_kind(()), "0")
        self.same(strange_kind(["0", "1", "3"]), "2")
        self.same(strange_kind(kinds=tuple("0123456789")), "a")
        self.same(strange_kind(tuple("0123456789abcdef")), "g")
        self.same(strange_kind(("00", "1")), "0")
        self.same(wide_kinds(A, B), ("0", "a", "b"))
        self.same(wide_kinds(one=("any", 1), other=("one", "0", 1)), ("0", "1"))
        self.same(wide_kinds(("empty",), ("empty",)), ("0",))
        many = ("row", tuple(("one", kind, 1) for kind in "0123456789abcdefghijklmnopqrst"))
        self.same(wide_kinds(many, many), tuple("0123456789abcdefghijklmnopqrstu"))


class SpellsTest(Case):
    def look_at(self, question, kinds, most):
        told = language(question, kinds, most)
        for word in words_over(kinds, most):
            self.assertIs(spells(question, word), word in told, (question, word))
        self.assertIs(spells_empty(question), () in told)

    def test_each_form(self):
        for question in (A, B, ("any", 1), ("any", -1), ("empty",), ("row", ()), ("either", ()), ("row", (A, B)), ("either", (A, B)),
                         ("star", A), ("some", A), ("maybe", A), ("times", A, 0, 0), ("times", A, 2, 2), ("times", A, 1, 3),
                         ("times", ("maybe", A), 3, 3), ("star", ("empty",)), ("star", ("maybe", A)), ("some", ("empty",)),
                         ("star", ("star", A)), ("some", ("either", ())), ("star", ("either", ())), ("times", ("either", ()), 0, 2),
                         ("times", ("either", ()), 1, 2), ("star", ("row", (A, B))), ("row", (("star", A), ("star", B))),
                         ("times", ("row", (A, A)), 0, 2), ("maybe", ("either", ())), ("times", ("star", A), 2, 2)):
            self.look_at(question, ("a", "b"), 4)

    def test_all_short_words(self):
        rng = random.Random(112)
        for _ in range(150):
            self.look_at(random_question(rng, rng.randint(1, 10), ("a",)), ("a",), 5)
            self.look_at(random_question(rng, rng.randint(1, 10)), ("a", "b"), 3)

    def test_kinds_that_are_not_named(self):
        self.assertIs(spells(("any", 1), (("zz", 1),)), True)
        self.assertIs(spells(("any", 1), (("zz", -1),)), False)
        self.assertIs(spells(question=A, word=(("zz", 1),)), False)
        rng = random.Random(113)
        for _ in range(60):
            question = random_question(rng, 8)
            for word in words_over(("a", "b", "q"), 2):
                strange = strange_kind(kinds_in(question))
                other = tuple((kind if kind in kinds_in(question) else strange, way) for kind, way in word)
                self.assertIs(spells(question, other), spells(question, word))

    def test_stars_in_stars_and_long_words(self):
        deep = ("any", 1)
        for _ in range(11):
            deep = ("star", deep)
        self.assertIs(spells(deep, (("a", 1),) * 16), True)
        self.assertIs(spells(deep, (("a", 1),) * 15 + (("a", -1),)), False)
        deep = A
        for _ in range(5):
            deep = ("star", ("row", (deep,)))
        self.assertIs(spells(deep, (("a", 1),) * 16), True)

    def test_turned(self):
        self.same(turned_question(A), ("one", "a", -1))
        self.same(turned_question(("any", -1)), ("any", 1))
        self.same(turned_question(("empty",)), ("empty",))
        self.same(turned_question(("row", (A, ("row", (B, A))))), ("row", (("row", (("one", "a", -1), ("one", "b", 1))), ("one", "a", -1))))
        self.same(turned_question(("either", (A, B))), ("either", (("one", "a", -1), ("one", "b", 1))))
        self.same(turned_question(question=("times", A, 1, 2)), ("times", ("one", "a", -1), 1, 2))
        self.same(turned_question(("some", ("maybe", ("star", A)))), ("some", ("maybe", ("star", ("one", "a", -1)))))

    def test_it_spells_the_turned_words(self):
        rng = random.Random(114)
        for _ in range(80):
            question = random_question(rng, rng.randint(1, 9))
            turned = turned_question(question)
            self.assertIs(is_question(turned), True)
            self.same(turned_question(turned), question)
            for word in words_over(("a", "b"), 3):
                back = tuple((kind, -way) for kind, way in word[::-1])
                self.assertIs(spells(turned, back), spells(question, word))


if __name__ == "__main__":
    unittest.main()
