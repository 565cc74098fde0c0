import random
import time

from spelledways.errors import Refused
from spelledways.folding import folded_word, folds, line_graph
from spelledways.formulas import letters_over, question_spread, spells, turned_question, wide_kinds
from spelledways.least import least_machine
from spelledways.questiontext import read_question
from spelledways.search import answers
from spelledways.spelling import missing_word
from spelledways.within import (check_loose, check_within, is_same, is_within, lean_either, loose_word, parting_graph,
                                within_paper)
from tests.common import Case, odd_values
from tests.test_folding import both_ways, folding_word, random_word
from tests.test_formulas import random_question, words_over
from tests.test_places import small_graph

UP, DOWN = ("a", 1), ("a", -1)
A, BACK = ("one", "a", 1), ("one", "a", -1)
ZIG = ("row", (A, BACK, A))


def told(text):
    return read_question(text)


def random_pair(rng, size=6):
    """Two questions; often such that one lies within the other."""
    one = rng.choice([random_question(rng, rng.randint(1, size), ("a",)), both_ways(rng), random_question(rng, rng.randint(1, size))])
    other = rng.choice([random_question(rng, rng.randint(1, size), ("a",)), both_ways(rng), one, ("either", (one, A)), ("maybe", one),
                        ("either", (("row", (one, turned_question(one), one)), BACK))])
    return (one, other) if rng.random() < 0.7 else (other, one)


def some_pairs(rng, many):
    found = []
    while len(found) < many:
        one, other = random_pair(rng)
        if question_spread(one) + question_spread(other) <= 12:
            found.append((one, other))
    return found


def closure(pairs, states):
    """All pairs to which none or more of some pairs lead."""
    met = {(state, state) for state in states}
    while True:
        wider = met | {(one, two) for one, other in met for begin, two in pairs if begin == other}
        if wider == met:
            return met
        met = wider


def plain_next(machine, front, letter):
    """The next front of a pair (seen, turns) for a letter, by its words in the document."""
    seen, turns = front
    back = (letter[0], -letter[1])
    rounds = {(one, two) for one in range(machine.many) for low in machine.next_states(one, back)
              for begin, end in turns if begin == low for two in machine.next_states(end, letter)}
    met = closure(rounds, range(machine.many))
    begun = {behind for state in seen for behind in machine.next_states(state, letter)}
    return tuple(sorted({two for one, two in met if one in begun})), tuple(sorted(met))


def plain_marks(question, other):
    """All marks to which words lead."""
    kinds = wide_kinds(question, other)
    one, two = least_machine(question, kinds), least_machine(other, kinds)
    marks = [(one.start, ((two.start,), tuple((state, state) for state in range(two.many))))]
    for state, front in marks:
        for mark in plain_behind(one, two, kinds, state, front):
            if mark not in marks:
                marks.append(mark)
    return one, two, tuple(sorted(marks))


def plain_behind(one, two, kinds, state, front):
    steps = [(letter, one.next_state(state, letter)) for letter in letters_over(kinds)]
    return [(behind, plain_next(two, front, letter)) for letter, behind in steps if behind is not None]


def plain_check(question, other, value):
    """Whether marks of the right form are a paper."""
    kinds = wide_kinds(question, other)
    one, two = least_machine(question, kinds), least_machine(other, kinds)
    first = (one.start, ((two.start,), tuple((state, state) for state in range(two.many))))
    if first not in value or list(value) != sorted(set(value)):
        return False
    for state, front in value:
        if state in one.ends and not set(front[0]) & set(two.ends):
            return False
        if any(mark not in value for mark in plain_behind(one, two, kinds, state, front)):
            return False
    return True


class WithinTest(Case):
    def test_beside_all_short_words(self):
        rng = random.Random(351)
        seen = {True: 0, False: 0}
        for one, other in some_pairs(rng, 120):
            kinds = wide_kinds(one, other)
            most = 3 if len(kinds) < 3 else 2
            short = sorted(words_over(kinds, most), key=lambda word: (len(word), word))
            loose = [word for word in short if spells(one, word) and folded_word(other, word) is None]
            word = loose_word(one, other)
            if loose:
                self.same(word, loose[0])
            elif word is not None:
                self.assertGreater(len(word), most)
                self.assertTrue(spells(one, word) and folded_word(other, word) is None)
            self.assertIs(is_within(one, other), word is None)
            self.assertIs(is_same(one, other), word is None and loose_word(other, one) is None)
            self.look_at_graphs(rng, one, other, word)
            seen[word is None] += 1
        self.assertGreater(min(seen.values()), 30)

    def look_at_graphs(self, rng, one, other, word):
        """Within: on each graph each pair is one of the other, too. Loose: the line graph of the word parts them."""
        if word is None:
            self.same(parting_graph(one, other), None)
            for _ in range(5):
                graph = self.renamed_kinds(small_graph(rng))
                self.assertTrue(set(answers(graph, one)) <= set(answers(graph, other)))
            return
        graph, begin, end = parting_graph(one, other)
        self.same((graph, begin, end), (line_graph(word), "0", str(len(word))))
        self.assertIn((begin, end), answers(graph, one))
        self.assertNotIn((begin, end), answers(graph, other))

    def renamed_kinds(self, graph):
        kinds = {"x": "a", "y": "b"}
        return graph[0], tuple(sorted(((line[0], kinds.get(line[1], line[1]), line[2]), price) for line, price in graph[1]))

    def test_pairs_on_many_small_graphs(self):
        rng = random.Random(352)
        graphs = [self.renamed_kinds(small_graph(rng, lines=4)) for _ in range(60)]
        parted = 0
        for one, other in some_pairs(rng, 60):
            apart = any(not set(answers(graph, one)) <= set(answers(graph, other)) for graph in graphs)
            parted += apart
            if apart:
                self.assertIs(is_within(one, other), False)
        self.assertGreater(parted, 8)

    def test_examples(self):
        self.same((is_within(A, ZIG), loose_word(ZIG, A)), (True, (UP, DOWN, UP)))
        self.same((is_within(question=ZIG, other=A), is_same(question=ZIG, other=A), is_same(ZIG, ZIG)), (False, False, True))
        self.same(parting_graph(question=ZIG, other=A), (line_graph((UP, DOWN, UP)), "0", "3"))
        self.same(loose_word(question=("any", 1), other=A), (("0", 1),))
        self.same(loose_word(A, ("any", 1)), None)
        self.same(loose_word(("any", 1), ("one", "0", 1)), (("1", 1),))
        nothing = ("either", ())
        self.same((is_within(nothing, nothing), is_within(nothing, A), loose_word(A, nothing)), (True, True, (UP,)))
        self.same((is_within(("empty",), nothing), loose_word(("empty",), nothing)), (False, ()))
        self.same(parting_graph(("empty",), nothing), ((("0",), ()), "0", "0"))
        self.same((is_within(("empty",), ("maybe", A)), loose_word(("maybe", A), ("empty",)), is_within(("empty",), A)), (True, (UP,), False))
        # It lies within the other though it spells longer words: the other one's words fold onto them.
        self.same((is_within(told("[a+ a- a+ a- a+]"), told("[a+ a- a+]")), is_within(told("[a+ a- a+]"), told("[a+ a- a+ a- a+]"))), (False, True))
        self.same(is_same(told("[*[a+ a-] a+]"), told("!a+")), False)
        self.same(is_within(told("!a+"), told("!a+")), True)
        self.same(is_within(told("!a+"), told("[*[a+ a-] !a+]")), True)
        self.same(is_same(told("*{a+ a-}"), told("[*a- *{a+ a-} *a+]")), True)
        self.same(is_within(told("[a+ b+]"), told("[a+ b+ b- b+]")), True)
        self.same(is_within(told("[a+ b+]"), told("[a+ a- b+]")), False)
        self.same(is_within(told("[a+ b+]"), told("[a+ <0,6>[a- a+] b+]")), True)

    def test_what_is_seen_is_not_all_that_counts(self):
        # Behind a and b the same is seen; but only who came by a may turn there, when one comes back to that place.
        one, other = told("[{a+ b+} a+]"), told("[{a+ b+} a+ a- a- a+ a+]")
        self.same((loose_word(one, other), loose_word(told("[a+ a+]"), other)), ((("b", 1), UP), None))
        self.same(loose_word(turned_question(one), turned_question(other)), (DOWN, ("b", -1)))

    def test_forms_keep_what_lies_within(self):
        rng = random.Random(353)
        seen = 0
        for one, other in some_pairs(rng, 80):
            if not is_within(one, other) or question_spread(one) + question_spread(other) > 5:
                continue
            seen += 1
            self.assertIs(is_within(turned_question(one), turned_question(other)), True)
            for form in ("star", "some", "maybe"):
                self.assertIs(is_within((form, one), (form, other)), True)
            self.assertIs(is_within(("times", one, 1, 2), ("times", other, 1, 2)), True)
            for form in ("row", "either"):
                self.assertIs(is_within((form, (BACK, one)), (form, (BACK, other))), True)
        self.assertGreater(seen, 15)

    def test_along_the_lines_alone(self):
        rng = random.Random(354)
        seen = {True: 0, False: 0}
        for _ in range(120):
            one, other = [self.forward(random_question(rng, rng.randint(1, 5))) for _ in range(2)]
            if question_spread(one) + question_spread(other) <= 12:
                missing = missing_word(one, other, wide_kinds(one, other))
                self.same(loose_word(one, other), missing)
                seen[missing is None] += 1
        self.assertGreater(min(seen.values()), 20)

    def forward(self, question):
        if question[0] in ("one", "any"):
            return question[:-1] + (1,)
        if question[0] in ("row", "either"):
            return (question[0], tuple(self.forward(part) for part in question[1]))
        return question if question[0] == "empty" else (question[0], self.forward(question[1])) + question[2:]

    def test_words_that_fold_lie_around(self):
        rng = random.Random(355)
        for _ in range(60):
            onto = random_word(rng, 5, ("a", "b"))
            word, _ = folding_word(rng, onto, rng.randint(0, 3))
            one = ("row", tuple(("one",) + letter for letter in onto))
            other = ("row", tuple(("one",) + letter for letter in word))
            self.assertIs(is_within(one, other), True)
            self.assertIs(is_within(other, one), folds(onto, word))


class LooseTest(Case):
    def test_beside_short_words(self):
        rng = random.Random(356)
        for one, other in some_pairs(rng, 40):
            for word in words_over(("a", "q"), 2):
                wanted = spells(one, word) and folded_word(other, word) is None
                self.assertIs(check_loose(one, other, word), wanted)
            word = loose_word(one, other)
            if word is not None:
                self.assertIs(check_loose(one, other, word), True)

    def test_any_value(self):
        self.assertIs(check_loose(question=ZIG, other=A, value=(UP, DOWN, UP)), True)
        self.assertIs(check_loose(("any", 1), A, (("zzzz", 1),)), True)
        self.assertIs(check_loose(("star", A), A, ()), True)
        self.assertIs(check_loose(("star", A), ("empty",), ()), False)
        for word in ((("A", 1),), (("a_", 1),), ((1, 1),), ((None, 1),), (("a", True),), ((["a"], 1),), (("abcde", 1),), (("", 1),)):
            self.assertIs(check_loose(("any", 1), ("empty",), word), False)
        for value in odd_values() + [[UP, DOWN, UP], (UP, list(DOWN), UP), (UP, DOWN), (UP, ("a", True), UP), (UP, ("A", -1), UP), (UP, DOWN, UP, UP),
                                     (("a", 1, 1),) * 3, "aaa", (UP, ("a", 0), UP)]:
            self.assertIs(check_loose(ZIG, A, value), False)
            self.assertIs(check_loose(ZIG, A, (UP, value, UP)), False)
            self.assertIs(check_loose(ZIG, A, (UP, (value, 1), UP)), False)
            self.assertIs(check_loose(ZIG, A, (UP, ("a", value), UP)), value is not None and type(value) is int and value == -1)


class PaperTest(Case):
    def test_beside_marks_found_plainly(self):
        rng = random.Random(357)
        seen = {True: 0, False: 0}
        for one, other in some_pairs(rng, 150):
            if not is_within(one, other):
                seen[False] += 1
                self.told(Refused, "loose", within_paper, one, other)
                _, _, marks = plain_marks(one, other)
                self.assertIs(check_within(one, other, marks), False)
                continue
            seen[True] += 1
            first, second, marks = plain_marks(one, other)
            paper = within_paper(one, other)
            self.same(paper, marks)
            self.assertIs(check_within(one, other, paper), True)
            self.assertFalse([mark for mark in marks if mark[0] in first.ends and not set(mark[1][0]) & set(second.ends)])
            self.look_at_bent(rng, one, other, paper, first, second)
        self.assertGreater(min(seen.values()), 40)

    def look_at_bent(self, rng, one, other, paper, first, second):
        for at in range(min(6, len(paper))):
            self.assertIs(check_within(one, other, paper[:at] + paper[at + 1:]), False)
        at = rng.randrange(len(paper))
        self.assertIs(check_within(one, other, paper[:at] + paper[at:at + 1] + paper[at:]), False)
        if len(paper) > 1:
            self.assertIs(check_within(one, other, paper[::-1]), False)
        self.assertIs(check_within(one, other, list(paper)), False)
        for _ in range(6):
            # Marks more, true or not, do no harm if they are closed and not loose.
            seen = tuple(state for state in range(second.many) if rng.random() < 0.5)
            pairs = [(state, state) for state in range(second.many) if rng.random() < 0.9]
            pairs += [(rng.randrange(second.many), rng.randrange(second.many)) for _ in range(rng.randint(0, 2))]
            mark = (rng.randrange(first.many), (seen, tuple(sorted(set(pairs)))))
            more = tuple(sorted(set(paper + (mark,))))
            self.assertIs(check_within(one, other, more), plain_check(one, other, more))
            at = rng.randrange(len(paper))
            bent = tuple(sorted(set(paper[:at] + (mark,) + paper[at + 1:])))
            self.assertIs(check_within(one, other, bent), plain_check(one, other, bent))

    def test_marks_of_a_loose_word(self):
        _, _, marks = plain_marks(ZIG, A)
        self.assertIs(check_within(ZIG, A, marks), False)
        loose = [mark for mark in marks if mark[0] in least_machine(ZIG, ("a",)).ends]
        self.assertIs(check_within(ZIG, A, tuple(mark for mark in marks if mark not in loose)), False)

    def test_edges(self):
        nothing, empty = ("either", ()), ("empty",)
        self.same(within_paper(question=nothing, other=nothing), ((0, ((0,), ((0, 0),))),))
        self.same(within_paper(empty, empty), ((0, ((0,), ((0, 0),))),))
        self.same(within_paper(A, A), ((0, ((0,), ((0, 0), (1, 1)))), (1, ((1,), ((0, 0), (1, 1))))))
        # A front whose turns lack a state with itself is told as it stands.
        paper = within_paper(A, ZIG)
        self.assertIs(check_within(A, ZIG, paper), True)
        short = (paper[0][0], (paper[0][1][0], ()))
        after = plain_behind(least_machine(A, ("0", "a")), least_machine(ZIG, ("0", "a")), ("0", "a"), *short)
        self.assertNotEqual(after, [mark for mark in paper if mark[0] == 1])
        more = tuple(sorted(set(paper + (short,) + tuple(after))))
        self.assertIs(check_within(A, ZIG, more), plain_check(A, ZIG, more))

    def test_any_value(self):
        paper = within_paper(A, A)
        self.assertIs(check_within(question=A, other=A, value=paper), True)
        first, last = paper
        for value in odd_values():
            self.assertIs(check_within(A, A, value), False)
            self.assertIs(check_within(A, A, paper + (value,)), False)
            self.assertIs(check_within(A, A, (first, (value, last[1]))), False)
            self.assertIs(check_within(A, A, (first, (1, value))), False)
            self.assertIs(check_within(A, A, (first, (1, (value, last[1][1])))), False)
            self.assertIs(check_within(A, A, (first, (1, ((1,), value)))), False)
            self.assertIs(check_within(A, A, (first, (1, ((1,), ((0, 0), value))))), False)
            self.assertIs(check_within(A, A, (first, (1, ((1,), ((0, 0), (1, value)))))), False)
            self.assertIs(check_within(A, A, (first, (1, ((value,), ((0, 0), (1, 1)))))), False)
        turns = ((0, 0), (1, 1))
        for value in odd_values() + [2, -1, "0", False]:
            self.assertIs(check_within(A, A, (first, (1, ((1,), ((value, 0), (1, 1)))))), False)
            self.assertIs(check_within(A, A, (first, (1, ((1,), ((0, value), (1, 1)))))), False)
            self.assertIs(check_within(A, A, paper + ((1, ((1,), ((0, 0), (value, 0), (1, 1)))),)), False)
        for value in ((first, (True, ((1,), turns))), (first, (1, ((True,), turns))), (first, (1, ((1,), ((0, 0), (1, True))))), (first, (2, ((1,), turns))),
                      (first, (1, ((2,), turns))), (first, (1, ((1,), turns + ((2, 2),)))), (first, (1, ((1,), turns[::-1]))), (first, (1, ((1, 1), turns))),
                      (first, (1, ([1], turns))), (first, (1, ((1,), list(turns)))), (first, [1, ((1,), turns)]), (first, (1, [(1,), turns])),
                      (first, (-1, ((1,), turns))), (first, (1, ((), turns))), (last,), (first,), ()):
            self.assertIs(check_within(A, A, value), False, value)
        self.assertIs(check_within(A, A, (first, (1, ((0, 1), turns)))), False)
        self.assertIs(check_within(A, A, (first, last, (1, ((1,), ((0, 0), (0, 1), (1, 1)))))), False)
        self.assertIs(check_within(A, A, (first, (1, ((1,), ((0, 0), (0, 1), (1, 1)))), last)), True)


class LeanTest(Case):
    def plain_lean(self, parts):
        left = list(range(len(parts)))
        for at in reversed(range(len(parts))):
            others = ("either", tuple(parts[other] for other in left if other != at))
            if loose_word(parts[at], others) is None:
                left.remove(at)
        return tuple(left)

    def test_beside_one_by_one(self):
        rng = random.Random(358)
        sizes = set()
        for _ in range(120):
            parts = [random_question(rng, rng.randint(1, 4), ("a",)) for _ in range(rng.randint(0, 4))]
            if sum(map(question_spread, parts)) > 12:
                continue
            left = lean_either(rng.choice([list, tuple])(parts))
            self.same(left, self.plain_lean(parts))
            sizes.add((len(parts), len(left)))
            some = ("either", tuple(parts[at] for at in left))
            self.assertIs(is_same(some, ("either", tuple(parts))), True)
            for at in left:
                self.assertIs(is_within(parts[at], ("either", tuple(parts[other] for other in left if other != at))), False)
        self.assertGreater(len(sizes), 8)

    def test_edges(self):
        nothing = ("either", ())
        self.same((lean_either(()), lean_either([]), lean_either(parts=(nothing,)), lean_either((A,))), ((), (), (), (0,)))
        self.same(lean_either((nothing, nothing, ("row", (A, nothing)))), ())
        # Parts that lie within one another both ways: the last one goes.
        self.same(lean_either((A, A, A)), (0,))
        self.same(lean_either((told("[a+ a- a+]"), A)), (0,))
        self.same(lean_either((A, told("[a+ a- a+]"))), (1,))
        self.same(lean_either((("any", 1), A, ("empty",), ("maybe", BACK))), (0, 3))
        self.same(lean_either((A, ("maybe", A), ("empty",))), (1,))
        self.same(lean_either((("maybe", A), A, ("empty",))), (0,))
        self.same(lean_either((A, ("empty",), ("maybe", A))), (0, 1))


class TimeTest(Case):
    def test_the_greatest_in_good_time(self):
        started = time.time()
        for one, other, within in (("[*_+ a+ _+ _+]", "[*_+ a+ <6,6>_+]", False), ("[*_+ a+ <6,6>_+]", "[*_+ a+ _+ _+]", False),
                                   ("[*{_+ _-} a+]", "[*{_+ _-} a+ {_+ _-} {_+ _-} ?_+]", True), ("*{_+ _-}", "*[<3,3>{_+ _-} ?{a+ a-}]", True),
                                   ("*{[!a+ ?_+ ?a-]}", "*{*[*_+] [*_- _+ *_- b+] *[a- !_+ a-]}", True),
                                   ("!{*[a+ _+ _+]}", "!{?[_- !b-] *[b+ !b+ !a+] [_+ _+ _+]}", True),
                                   ("*{[*b+ a+ ?_+ a+]}", "!{*[b+ *_- b+] [_+ _+ ?a+] [b+ _+]}", True)):
            one, other = read_question(one), read_question(other)
            self.assertLessEqual(question_spread(one) + question_spread(other), 12)
            self.assertIs(is_within(one, other), within)
            if within:
                paper = within_paper(one, other)
                self.assertIs(check_within(one, other, paper), True)
                self.assertIs(check_within(one, other, paper[1:]), False)
        parts = [read_question(text) for text in ("[*_+ a+ _+]", "[*_- a- _-]", "<0,3>{_+ _-}", "!b+")]
        self.same(lean_either(parts), (0, 1, 2, 3))
        rng = random.Random(359)
        for _ in range(60):
            one, other = [both_ways(rng) for _ in range(2)]
            if question_spread(one) + question_spread(other) <= 12 and is_within(one, other):
                self.assertIs(check_within(one, other, within_paper(one, other)), True)
        self.assertLess(time.time() - started, 5)
