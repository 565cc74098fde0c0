import itertools
import random
import time

from spelledways.errors import InvalidKey
from spelledways.formulas import letters_over, question_spread, spells
from spelledways.machines import Machine, is_machine, is_single, machine_of
from tests.common import Case, nested, odd_values
from tests.test_formulas import language, random_question, words_over

A, B = ("one", "a", 1), ("one", "b", -1)
DRAWN = Machine(("a", "b"), 3, ((0, ("a", 1), 1), (0, ("a", 1), 2), (1, ("b", -1), 1), (2, ("a", -1), 0)), 0, (1,))


def random_machine(rng, kinds=("a",), most=3):
    """Some machine over some kinds, not always a single one."""
    many = rng.randint(1, most)
    letters = letters_over(kinds)
    steps = {(rng.randrange(many), rng.choice(letters), rng.randrange(many)) for _ in range(rng.randint(0, 2 * many + 2) if kinds else 0)}
    ends = tuple(state for state in range(many) if rng.random() < 0.4)
    return Machine(tuple(kinds), many, tuple(sorted(steps)), rng.randrange(many), ends)


def plain_states(machine, word):
    """The states behind a word, by trying all rows of steps."""
    return sorted({end for end in range(machine.many) if leads(machine, machine.start, word, end)})


def leads(machine, state, word, end):
    if not word:
        return state == end
    return any(leads(machine, step[2], word[1:], end) for step in machine.steps if (step[0], step[1]) == (state, word[0]))


class MachineTest(Case):
    def test_what_a_machine_tells(self):
        self.same(DRAWN.next_states(0, ("a", 1)), (1, 2))
        self.same((DRAWN.next_state(0, ("a", 1)), DRAWN.next_state(0, ("b", -1)), DRAWN.next_state(1, ("b", -1))), (1, None, 1))
        self.same(DRAWN.next_states(state=2, letter=("a", 1)), ())
        self.same(DRAWN.next_state(state=2, letter=("a", -1)), 0)
        self.same(DRAWN.states_behind(()), (0,))
        self.same(DRAWN.states_behind(word=(("a", 1), ("a", -1))), (0,))
        self.same(DRAWN.states_behind((("q", 1),)), ())
        self.same((DRAWN.accepts(()), DRAWN.accepts(word=(("a", 1),)), DRAWN.accepts((("b", -1),))), (False, True, False))

    def test_beside_all_rows_of_steps(self):
        rng = random.Random(111)
        for _ in range(60):
            machine = random_machine(rng, rng.choice([(), ("a",), ("a", "b")]), 4)
            self.assertIs(is_machine(machine), True)
            for word in words_over(machine.kinds, 3) + [(("zz", 1),)]:
                states = plain_states(machine, word)
                self.same(machine.states_behind(word), tuple(states))
                self.assertIs(machine.accepts(word), bool(set(states) & set(machine.ends)))
            for state, letter in itertools.product(range(machine.many), letters_over(("a", "b"))):
                behind = sorted(step[2] for step in machine.steps if step[:2] == (state, letter))
                self.same(machine.next_states(state, letter), tuple(behind))
                self.same(machine.next_state(state, letter), behind[0] if behind else None)

    def test_one_state_and_steps_from_it_to_itself(self):
        bare = Machine((), 1, (), 0, ())
        self.same((is_machine(bare), bare.accepts(()), bare.states_behind(())), (True, False, (0,)))
        self.assertIs(Machine((), 1, (), 0, (0,)).accepts(()), True)
        loop = Machine(("a",), 1, ((0, ("a", 1), 0),), 0, (0,))
        self.assertIs(loop.accepts((("a", 1),) * 16), True)
        self.assertIs(loop.accepts((("a", 1), ("a", -1))), False)
        self.assertIs(is_single(loop), True)

    def test_arguments_are_kept(self):
        kinds, steps, ends = ["a"], [[0, ["a", 1], 0]], [0]
        machine = Machine(kinds, 1, steps, 0, ends)
        self.assertIs(machine.kinds, kinds)
        self.assertIs(machine.steps, steps)
        self.assertIs(machine.ends, ends)
        self.same((machine.many, machine.start), (1, 0))
        self.same(machine.next_states(0, ("a", 1)), (0,))
        self.assertIs(is_machine(machine), False)
        named = Machine(kinds=("a",), many=1, steps=(), start=0, ends=())
        self.same((named.kinds, named.many, named.steps, named.start, named.ends), (("a",), 1, (), 0, ()))

    def test_equal(self):
        parts = (("a",), 2, ((0, ("a", 1), 1),), 0, (1,))
        machine = Machine(*parts)
        self.assertTrue(machine == Machine(*parts))
        self.assertTrue(machine == Machine(["a"], 2, [[0, ["a", 1], 1]], 0, [1]))
        self.assertTrue(machine == Machine(("a",), 2, [(0, ("a", 1), 1)], 0, (1,)))
        for at, other in enumerate([("b",), 3, (), 1, ()]):
            bent = list(parts)
            bent[at] = other
            self.assertFalse(machine == Machine(*bent))
            self.assertTrue(machine != Machine(*bent))
        for value in odd_values() + [parts]:
            self.assertFalse(machine == value)
            self.assertFalse(value == machine)

    def test_no_machines(self):
        for value in odd_values():
            self.assertIs(is_machine(value), isinstance(value, Machine))
        step = (0, ("a", 1), 1)
        right = (("a", "b"), 2, (step, (1, ("b", -1), 1)), 0, (0, 1))
        self.assertIs(is_machine(Machine(*right)), True)
        wrong = {
            0: [["a", "b"], ("b", "a"), ("a", "a", "b"), ("a",), ("A", "a", "b"), ("a", 1), (None,), "ab", ("a", "abcde"), (("a",), "b")],
            1: [0, -1, 1, True, None, "2", (2,), [2]],
            2: [[step], (list(step),), ((0, ["a", 1], 1),), (step, step), ((1, ("b", -1), 1), step), ((2, ("a", 1), 0),), ((0, ("a", 1), 2),),
                ((0, ("c", 1), 1),), ((0, ("a", 0), 1),), ((0, ("a", True), 1),), ((False, ("a", 1), 1),), ((0, ("a", 1), True),),
                ((0, ("a", 1)),), ((0, ("a", 1), 1, 1),), ((0, ("a",), 1),), ((0, "a", 1),), ((-1, ("a", 1), 0),), (None,), (step, 1),
                ((0, (["a"], 1), 1),), ((0, ("a", "1"), 1),), ((0, ("a", 1, 1), 1),)],
            3: [2, -1, True, False, None, "0", (0,)],
            4: [[0], (1, 0), (0, 0), (2,), (-1,), (True,), (False,), (None,), 0, None, "0"]}
        for at, values in wrong.items():
            for value in values + odd_values():
                bent = right[:at] + (value,) + right[at + 1:]
                if not (at == 4 and value == () or at == 2 and value == () or at == 1 and value == 10 ** 19):
                    self.assertIs(is_machine(Machine(*bent)), False, bent)
        self.assertIs(is_machine(Machine(("a", "b"), 10 ** 19, (), 10 ** 19 - 1, ())), True)
        self.assertIs(is_machine(Machine(nested(30, tuple), nested(30, list), (), 0, ())), False)
        self.assertIs(is_machine(InvalidKey(Machine(*right))), False)
        self.assertIs(is_machine(value=[Machine(*right)]), False)

    def test_single(self):
        self.assertIs(is_single(DRAWN), False)
        self.assertIs(is_single(machine=Machine(("a",), 2, ((0, ("a", 1), 1), (1, ("a", 1), 1)), 0, ())), True)
        self.assertIs(is_single(Machine(("a",), 2, ((0, ("a", -1), 0), (0, ("a", 1), 1)), 0, ())), True)
        rng = random.Random(112)
        for _ in range(100):
            machine = random_machine(rng, ("a",), 4)
            heads = [(step[0], step[1]) for step in machine.steps]
            self.assertIs(is_single(machine), len(heads) == len(set(heads)))


class OfQuestionsTest(Case):
    def look_at(self, question, kinds, most):
        machine = machine_of(question, kinds)
        self.assertIs(is_machine(machine), True)
        self.same(machine.kinds, tuple(kinds))
        self.assertLessEqual(machine.many, question_spread(question) + 1)
        told = language(question, kinds, most)
        for word in words_over(kinds, most):
            self.assertIs(machine.accepts(word), word in told, (question, word))
            self.assertIs(spells(question, word), word in told)

    def test_each_form(self):
        for question in (A, B, ("any", 1), ("any", -1), ("empty",), ("row", ()), ("either", ()), ("row", (A, B)), ("either", (A, B)),
                         ("star", A), ("some", A), ("maybe", A), ("times", A, 0, 0), ("times", A, 0, 2), ("times", A, 2, 3),
                         ("times", ("either", ()), 0, 6), ("times", ("either", ()), 1, 6), ("times", ("empty",), 3, 6),
                         ("star", ("either", ())), ("some", ("either", ())), ("some", ("maybe", A)), ("star", ("star", A)),
                         ("row", (("maybe", A), ("maybe", B), ("star", A))), ("times", ("maybe", A), 2, 3), ("row", (A, ("either", ())))):
            for kinds in ((), ("a",), ["a", "b"], ("b", "c")):
                self.look_at(question, kinds, 4 if len(kinds) < 2 else 3)

    def test_beside_the_words_spelled(self):
        rng = random.Random(113)
        for _ in range(150):
            question = random_question(rng, rng.randint(1, 9))
            if question_spread(question) <= 8:
                self.look_at(question, rng.choice([("a",), ("a", "b")]), 3)

    def test_parameters_and_no_kinds(self):
        self.assertTrue(machine_of(question=A, kinds=["a"]) == machine_of(A, ("a",)))
        self.same(machine_of(("star", A), ()).steps, ())
        self.assertIs(machine_of(("star", A), ()).accepts(()), True)

    def test_the_greatest_spread_and_empty_parts_in_good_time(self):
        started = time.time()
        deep = ("either", ())
        for _ in range(10):
            deep = ("times", deep, 0, 6)
        self.look_at(deep, ("a",), 2)
        for question in (("times", ("times", A, 0, 2), 0, 4), ("star", ("row", (("any", 1),) * 8)), ("times", ("star", ("any", 1)), 2, 6),
                         ("row", (("star", ("any", 1)), A) + (("any", 1),) * 6)):
            self.look_at(question, ("a", "b"), 2)
        self.assertLess(time.time() - started, 5)
