import itertools
import random
import time

from spelledways.errors import InvalidSize
from spelledways.formulas import question_spread, spells
from spelledways.least import (check_fewest, fewest_paper, least, least_machine, machine_apart, machine_both, machine_but,
                               machine_either, state_goes, state_heads, state_tails, turned_machine)
from spelledways.machines import Machine, is_machine, is_single, machine_of
from spelledways.waysof import turned_word
from tests.common import Case, nested, odd_values
from tests.test_formulas import random_question, words_over
from tests.test_machines import random_machine

A, B = ("one", "a", 1), ("one", "b", 1)
RIDE = ("row", (("star", A), A))
WORDS = words_over(("a",), 7)
FEW_WORDS = words_over(("a", "b"), 3)


def words_to_ends(machine, states, words):
    """The words that lead from some of these states to an end."""
    found = set()
    for word in words:
        here = set(states)
        for letter in word:
            here = {step[2] for step in machine.steps if step[0] in here and step[1] == letter}
        if here & set(machine.ends):
            found.add(word)
    return frozenset(found)


def lots_of(machine, words):
    """The unlike lots of words that may come behind what was read, the empty one left out."""
    states = {machine.states_behind(word) for word in words}
    return {words_to_ends(machine, some, words) for some in states} - {frozenset()}


class LeastTest(Case):
    def look_at(self, machine):
        """As a least machine has to be: single, numbered as it is met, each state on a way to an end."""
        self.assertIs(is_machine(machine), True)
        self.assertIs(is_single(machine), True)
        self.same(machine.start, 0)
        met = [0]
        for state in met:
            for step in machine.steps:
                if step[0] == state and step[2] not in met:
                    met.append(step[2])
        self.same(met, list(range(machine.many)))
        self.assertTrue(least(machine) == machine)
        if not machine.ends:
            self.assertTrue(machine == Machine(machine.kinds, 1, (), 0, ()))

    def test_beside_the_unlike_lots(self):
        rng = random.Random(121)
        sizes = set()
        for _ in range(150):
            machine = random_machine(rng, ("a",), 3)
            got = least(machine)
            self.look_at(got)
            self.same(got.kinds, ("a",))
            lots = lots_of(machine, WORDS)
            self.same(got.many, max(1, len(lots)))
            sizes.add(got.many)
            for word in WORDS[:127]:
                self.assertIs(got.accepts(word), machine.accepts(word))
        self.assertGreater(len(sizes), 3)

    def test_equal_just_for_the_same_words(self):
        rng = random.Random(122)
        machines = [random_machine(rng, ("a",), 2) for _ in range(60)]
        told = [(least(machine), words_to_ends(machine, (machine.start,), WORDS)) for machine in machines]
        for (one, words), (other, others) in itertools.combinations(told, 2):
            self.assertEqual(one == other, words == others)

    def test_edges(self):
        self.assertTrue(least(Machine(("a",), 3, ((0, ("a", 1), 1), (1, ("a", 1), 0)), 0, (2,))) == Machine(("a",), 1, (), 0, ()))
        self.assertTrue(least(Machine((), 1, (), 0, (0,))) == Machine((), 1, (), 0, (0,)))
        self.assertTrue(least(machine=Machine(["a"], 4, [[3, ["a", 1], 3]], 3, [3])) == Machine(("a",), 1, ((0, ("a", 1), 0),), 0, (0,)))
        self.same(repr(vars(least(Machine(["a"], 4, [[3, ["a", 1], 3]], 3, [3])))),
                  "{'kinds': ('a',), 'many': 1, 'steps': ((0, ('a', 1), 0),), 'start': 0, 'ends': (0,)}")

    def test_of_questions(self):
        machine = least_machine(RIDE, ("a",))
        self.same((machine.many, machine.steps, machine.ends), (2, ((0, ("a", 1), 1), (1, ("a", 1), 1)), (1,)))
        rng = random.Random(123)
        for _ in range(60):
            question = random_question(rng, rng.randint(1, 9))
            kinds = rng.choice([(), ("a",), ["a", "b"], ("b", "c")])
            if question_spread(question) <= 8:
                got = least_machine(question, kinds)
                self.look_at(got)
                self.assertTrue(got == least(machine_of(question, kinds)))
                for word in words_over(kinds, 3):
                    self.assertIs(got.accepts(word), spells(question, word))
        self.assertTrue(least_machine(question=A, kinds=["b"]) == Machine(("b",), 1, (), 0, ()))

    def test_two_together(self):
        rng = random.Random(124)
        joined = [(machine_both, lambda one, other: one and other), (machine_either, lambda one, other: one or other),
                  (machine_but, lambda one, other: one and not other), (machine_apart, lambda one, other: one != other)]
        for _ in range(60):
            kinds = rng.choice([(), ("a",), ("a", "b")])
            one, other = random_machine(rng, kinds, 4), random_machine(rng, kinds, 4)
            for call, wanted in joined:
                got = call(one=one, other=other)
                self.look_at(got)
                self.same(got.kinds, kinds)
                for word in words_over(kinds, 4 if len(kinds) < 2 else 3):
                    self.assertIs(got.accepts(word), wanted(one.accepts(word), other.accepts(word)))
            turned = turned_machine(machine=one)
            self.look_at(turned)
            for word in words_over(kinds, 4 if len(kinds) < 2 else 3):
                self.assertIs(turned.accepts(word), one.accepts(turned_word(word)))
            self.assertTrue(turned_machine(turned) == least(one))

    def test_unlike_kinds(self):
        one, other = Machine(("a",), 1, (), 0, ()), Machine(("a", "b"), 1, (), 0, ())
        for call in (machine_both, machine_either, machine_but, machine_apart):
            self.told(InvalidSize, "kinds", call, one, other)
            self.told(InvalidSize, "kinds", call, other, one)
            self.assertTrue(call(one, Machine(["a"], 1, (), 0, ())) == one)


class PapersTest(Case):
    def first(self, words):
        return min(words, key=lambda word: (len(word), word), default=None)

    def test_heads_goes_and_tails(self):
        rng = random.Random(125)
        for _ in range(80):
            machine = least(random_machine(rng, ("a",), 3))
            if machine.many > 7:
                continue
            words = words_over(("a",), machine.many)
            heads, goes, tails = state_heads(machine), state_goes(machine=machine), state_tails(machine)
            lots = [words_to_ends(machine, (state,), words) for state in range(machine.many)]
            for state in range(machine.many):
                self.same(heads[state], self.first([word for word in words if machine.states_behind(word) == (state,)]))
                self.same(goes[state], self.first(lots[state]) or ())
            pairs = itertools.combinations(range(machine.many), 2)
            self.same(tails, tuple((one, other, self.first(lots[one] ^ lots[other])) for one, other in pairs))
            self.assertTrue(all(len(tail[2]) < machine.many for tail in tails))
            self.same((len(heads), len(goes)), (machine.many, machine.many))

    def test_nothing_is_accepted(self):
        bare = Machine(("a",), 1, (), 0, ())
        self.same((state_heads(machine=bare), state_goes(bare), state_tails(machine=bare)), (((),), ((),), ()))
        self.same(fewest_paper(("either", ()), ("a",)), ((), (), ()))
        self.same(fewest_paper(A, ()), ((), (), ()))
        self.same(fewest_paper(("empty",), ()), (((),), ((),), ()))

    def plain_check(self, question, kinds, value):
        """The paper looked over by `spells` alone."""
        heads, goes, tails = value
        fits = all(spells(question, head + go) for head, go in zip(heads, goes))
        return fits and all(spells(question, heads[one] + word) != spells(question, heads[other] + word) for one, other, word in tails)

    def test_papers_of_questions(self):
        rng = random.Random(126)
        seen = set()
        for _ in range(120):
            question = random_question(rng, rng.randint(1, 8))
            kinds = rng.choice([(), ("a",), ("a", "b")])
            if question_spread(question) > 6:
                continue
            paper = fewest_paper(question, kinds)
            machine = least_machine(question, kinds)
            self.assertIs(check_fewest(question, kinds, paper), True)
            self.same(len(paper[0]), machine.many if machine.ends else 0)
            if machine.ends:
                self.same(paper, (state_heads(machine), state_goes(machine), state_tails(machine)))
            for _ in range(8):
                bent = self.bent(rng, paper, words_over(kinds, 2))
                wanted = self.plain_check(question, kinds, bent)
                self.assertIs(check_fewest(question, list(kinds), bent), wanted)
                seen.add(wanted)
        self.assertEqual(seen, {True, False})

    def bent(self, rng, paper, words):
        """A paper with some words of it exchanged; its form stays right."""
        heads, goes, tails = [list(part) for part in paper]
        for _ in range(rng.randint(1, 2)):
            place = rng.choice([part for part in (heads, goes, tails) if part] or [[()]])
            at = rng.randrange(len(place))
            place[at] = place[at][:2] + (rng.choice(words),) if place is tails else rng.choice(words)
        return tuple(heads), tuple(goes), tuple(tails)

    def test_papers_with_fewer_heads(self):
        heads, goes, tails = fewest_paper(RIDE, ("a",))
        self.same((heads, goes, tails), (((), (("a", 1),)), ((("a", 1),), ()), ((0, 1, ()),)))
        self.assertIs(check_fewest(question=RIDE, kinds=("a",), value=((), (), ())), True)
        self.assertIs(check_fewest(RIDE, ("a",), ((heads[1],), ((),), ())), True)
        self.assertIs(check_fewest(RIDE, ("a",), ((heads[0],), ((),), ())), False)
        self.assertIs(check_fewest(RIDE, ("a",), (heads[::-1], goes[::-1], tails)), True)
        self.assertIs(check_fewest(RIDE, ("a",), (heads + heads[1:], goes + goes[1:], tails + ((0, 2, ()), (1, 2, ())))), False)

    def test_no_papers(self):
        heads, goes, tails = fewest_paper(RIDE, ("a",))
        for value in odd_values():
            self.assertIs(check_fewest(RIDE, ("a",), value), False)
            for at in range(3):
                bent = (heads, goes, tails)[:at] + (value,) + (heads, goes, tails)[at + 1:]
                self.assertIs(check_fewest(RIDE, ("a",), bent), False)
            self.assertIs(check_fewest(RIDE, ("a",), ((heads[0], value), goes, tails)), False)
            self.assertIs(check_fewest(RIDE, ("a",), (heads, (goes[0], value), tails)), value == ())
            self.assertIs(check_fewest(RIDE, ("a",), (heads, goes, (value,))), False)
            self.assertIs(check_fewest(RIDE, ("a",), (heads, goes, ((0, 1, value),))), value == ())
            self.assertIs(check_fewest(RIDE, ("a",), ((heads[0], (value,)), goes, tails)), False)
        for bent in ([heads, goes, tails], (list(heads), goes, tails), (heads, goes, ((0, True, ()),)), (heads, goes, ((False, 1, ()),)),
                     (heads, goes, ()), (heads, goes, tails * 2), (heads, goes, ((1, 0, ()),)), (heads, goes, ([0, 1, ()],)), (heads, goes),
                     (heads, goes, ((0, 1),)), (heads, goes[:1], tails), (heads, goes, tails, ()), (((), (("b", 1),)), goes, tails),
                     (((), (("a", True),)), goes, tails), (((), (["a", 1],)), goes, tails), (((), [("a", 1)]), goes, tails),
                     (((), ("a", 1)), goes, tails), (heads, goes, nested(30, tuple)), (((), (("a", 1, 1),)), goes, tails)):
            self.assertIs(check_fewest(RIDE, ("a",), bent), False, bent)
        self.assertIs(check_fewest(RIDE, (), (heads, goes, tails)), False)


class GreatestTest(Case):
    def test_in_good_time(self):
        started = time.time()
        kinds = ("a", "b", "c", "d", "e")
        many = ("row", (("star", ("either", (("any", 1), ("any", -1)))), A) + (("any", 1),) * 5)
        machine = least_machine(many, kinds)
        self.assertEqual(machine.many, 64)
        heads = ("row", (("star", ("any", 1)), A) + (("any", 1),) * 4)
        paper = fewest_paper(heads, kinds)
        self.assertEqual(len(paper[0]), 32)
        self.assertIs(check_fewest(heads, kinds, paper), True)
        self.assertEqual(turned_machine(machine).many, 7)
        other = least_machine(("star", ("row", (("any", 1), ("any", 1)))), kinds)
        self.assertIs(is_machine(machine_apart(machine, other)), True)
        self.assertLess(time.time() - started, 6)
