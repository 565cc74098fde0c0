import random
import time

from spelledways.errors import InvalidSize
from spelledways.formulas import is_question, letters_over, question_spread, spells, wide_kinds
from spelledways.least import least, least_machine
from spelledways.machines import Machine, machine_of
from spelledways.questiontext import read_question
from spelledways.residuals import few_states
from spelledways.spelling import (always_same, count_words, first_word, missing_word, parting_word, question_of, same_words,
                                  total_words, word_at)
from tests.common import Case, odd_values
from tests.test_formulas import language, random_question, words_over
from tests.test_machines import random_machine

A, BUS = ("one", "a", 1), ("one", "bus", 1)
RIDE = read_question("[*bus+ bus+]")


def in_order(words):
    return sorted(words, key=lambda word: (len(word), word))


def first(words):
    return min(words, key=lambda word: (len(word), word), default=None)


class WordsTest(Case):
    def test_beside_a_plain_list_of_all_short_words(self):
        rng = random.Random(371)
        seen = {True: 0, False: 0}
        for _ in range(150):
            kinds, most = rng.choice([(("a",), 6), (["a", "b"], 3), ((), 0), (("b", "c"), 3)])
            one, other = [random_question(rng, rng.randint(1, 8)) for _ in range(2)]
            words, others = language(one, kinds, most), language(other, kinds, most)
            self.look_at_first(first_word(one, kinds), first(words), most, lambda word: spells(one, word))
            self.look_at_first(missing_word(one, other, kinds), first(words - others), most,
                               lambda word: spells(one, word) and not spells(other, word))
            parting = parting_word(one, other, kinds)
            self.look_at_first(parting, first(words ^ others), most, lambda word: spells(one, word) != spells(other, word))
            seen[parting is None] += 1
            self.assertIs(same_words(one, other, kinds), parting is None)
            if parting is not None:
                self.assertLess(len(parting), least_machine(one, kinds).many + least_machine(other, kinds).many)
            for length in range(most + 1):
                here = sorted(word for word in words if len(word) == length)
                self.same(count_words(one, kinds, length), len(here))
                for number, word in enumerate(here):
                    self.same(word_at(one, kinds, length, number), word)
                self.told(InvalidSize, "number", word_at, one, kinds, length, len(here))
        self.assertGreater(min(seen.values()), 30)

    def look_at_first(self, told, wanted, most, is_right):
        """The first of the short words; if there is none of these, a longer one that is right, or None."""
        if wanted is None and told is not None:
            self.assertTrue(len(told) > most and is_right(told))
        else:
            self.same(told, wanted)

    def test_always_the_same(self):
        rng = random.Random(372)
        seen = {True: 0, False: 0}
        for _ in range(200):
            one, other = [random_question(rng, rng.randint(1, 5), ("a",)) for _ in range(2)]
            told = always_same(one, other)
            seen[told] += 1
            self.assertIs(told, same_words(one, other, wide_kinds(one, other)))
            kinds = ("a", "q", "z")
            if told:
                self.assertEqual(language(one, kinds, 2), language(other, kinds, 2))
                self.assertIs(same_words(one, other, kinds), True)
            elif language(one, kinds, 2) == language(other, kinds, 2):
                self.assertIs(same_words(one, other, kinds), False)
        self.assertGreater(min(seen.values()), 10)

    def test_total_beside_counting(self):
        rng = random.Random(373)
        seen = {True: 0, False: 0}
        for _ in range(250):
            kinds = rng.choice([("a",), ["a", "b"], ()])
            question = random_question(rng, rng.randint(1, 7))
            many = least_machine(question, kinds).many
            if 2 * many > 40:
                continue
            told = [count_words(question, kinds, length) for length in range(2 * many)]
            endless = any(told[many:])
            seen[endless] += 1
            self.same(total_words(question, kinds), None if endless else sum(told))
        self.assertGreater(min(seen.values()), 20)

    def test_examples(self):
        one = BUS
        self.same((missing_word(RIDE, one, ("bus",)), same_words(RIDE, ("some", one), ("bus",))), ((("bus", 1), ("bus", 1)), True))
        self.same((same_words(("any", 1), one, ("bus",)), always_same(("any", 1), one)), (True, False))
        self.same(parting_word(one=("any", 1), other=one, kinds=("0", "bus")), (("0", 1),))
        self.same(missing_word(one=one, other=RIDE, kinds=["bus"]), None)
        self.same(first_word(question=RIDE, kinds=("bus",)), (("bus", 1),))
        self.same((first_word(RIDE, ()), first_word(("star", A), ()), first_word(("either", ()), ("a",))), (None, (), None))
        self.same(first_word(("either", (("one", "b", -1), A)), ("a", "b")), (("a", 1),))
        self.same((always_same(one=A, other=A), always_same(("either", ()), ("row", (A, ("either", ()))))), (True, True))
        self.same(same_words(one=A, other=("one", "b", 1), kinds=("c",)), True)

    def test_counts_at_their_bounds(self):
        both = ("star", ("either", (("any", 1), ("any", -1))))
        self.same(count_words(question=both, kinds=("a", "b"), length=40), 4 ** 40)
        self.same(word_at(question=both, kinds=("a", "b"), length=40, number=4 ** 40 - 1), (("b", 1),) * 40)
        self.same(word_at(both, ("a", "b"), 40, 0), (("a", -1),) * 40)
        self.told(InvalidSize, "number", word_at, both, ("a", "b"), 40, 4 ** 40)
        self.same((count_words(both, ("a",), 0), word_at(both, ("a",), 0, 0), count_words(A, ("a",), 0)), (1, (), 0))
        self.same((total_words(question=both, kinds=()), total_words(both, ("a",)), total_words(A, ("b",))), (1, None, 0))
        self.same((total_words(("either", ()), ("a",)), total_words(("empty",), ("a",)), total_words(("maybe", A), ("a",))), (0, 1, 2))
        self.same(total_words(("times", ("any", 1), 0, 6), ("a", "b", "c")), sum(3 ** at for at in range(7)))
        self.same(total_words(("row", (("star", A), ("either", ()))), ("a",)), 0)
        for value in odd_values() + [41, "1", 2.0]:
            self.told(InvalidSize, "length", count_words, both, ("a",), value)
            self.told(InvalidSize, "length", word_at, both, ("a",), value, value)
            self.told(InvalidSize, "number", word_at, both, ("a",), 2, value if value is not None else 4)
        self.told(InvalidSize, "number", word_at, both, ("a",), 2, None)


class WrittenTest(Case):
    def look_at(self, machine):
        question = question_of(machine)
        self.assertTrue(is_question(question))
        self.assertTrue(least_machine(question, machine.kinds) == least(machine))
        return question

    def test_beside_the_words_that_a_machine_accepts(self):
        rng = random.Random(374)
        for _ in range(200):
            machine = random_machine(rng, rng.choice([(), ("a",), ("a", "b"), ("a", "b", "c")]), 4)
            question = self.look_at(machine)
            for word in words_over(machine.kinds, 4 if len(machine.kinds) < 2 else 2) + [(("zz", 1),), (("zz", -1),)]:
                self.assertIs(spells(question, word), machine.accepts(word))

    def test_of_questions(self):
        rng = random.Random(375)
        for _ in range(150):
            question = random_question(rng, rng.randint(1, 9))
            if question_spread(question) <= 8:
                kinds = rng.choice([(), ("a",), ("a", "b", "c")])
                self.look_at(machine_of(question, kinds))
                self.look_at(least_machine(question, kinds))

    def test_it_stays_short(self):
        # Read from the begin this takes 128 states, from the end 9; the other one many both ways, but few needed ones.
        for text, most in (("[*_+ a+ <6,6>_+]", 40), ("[<6,6>_- a- *_-]", 40), ("*[*[_- !b- _- _- _-] *[*b- _+] *[?a-]]", 400),
                           ("![[?_- b- b- _-] [*b+ b- _- _-]]", 400), ("*{[a+] *[!_-] *[*_+] [*_+ ?a+] *[?a+ *_+ ?_+]}", 400)):
            question = read_question(text)
            for machine in (machine_of(question, ("a", "b")), least_machine(question, ("a", "b"))):
                self.assertLess(question_spread(self.look_at(machine)), most)

    def test_few_states_accept_the_same(self):
        rng = random.Random(377)
        fewer = 0
        for _ in range(150):
            machine = least(random_machine(rng, rng.choice([("a",), ("a", "b")]), 5))
            states, steps, starts, ends = few_states(machine)
            self.assertTrue(set(states) <= set(range(machine.many)) and set(starts) | set(ends) <= set(states))
            fewer += len(states) < machine.many
            for word in words_over(machine.kinds, 4 if len(machine.kinds) < 2 else 2):
                here = set(starts)
                for letter in word:
                    here = {step[2] for step in steps if step[0] in here and step[1] == letter}
                self.assertIs(bool(here & set(ends)), machine.accepts(word))
        self.assertGreater(fewer, 20)

    def test_edges(self):
        for machine in (Machine((), 1, (), 0, ()), Machine((), 1, (), 0, (0,)), Machine(("a",), 1, ((0, ("a", 1), 0),), 0, (0,)),
                        Machine(("a",), 3, ((0, ("a", 1), 0), (1, ("a", 1), 0)), 1, ()), Machine(("a",), 2, ((0, ("a", 1), 1),), 1, (0,)),
                        Machine(("a",), 2, ((0, ("a", -1), 1), (1, ("a", 1), 0)), 0, (0,)), Machine(("a", "b"), 4, (), 3, (0, 1, 2, 3))):
            self.look_at(machine)
        self.same((question_of(machine=Machine((), 1, (), 0, ())), question_of(Machine(("a",), 1, (), 0, (0,)))), (("either", ()), ("empty",)))
        self.assertTrue(always_same(question_of(Machine(["a"], 2, [[0, ["a", 1], 1]], 0, [1])), A))

    def test_the_greatest_in_good_time(self):
        started = time.time()
        rng = random.Random(376)
        letters = letters_over(("a", "b", "c"))
        for share in (0.1, 0.3, 0.5, 0.7, 1):
            steps = tuple((one, letter, two) for one in range(4) for letter in letters for two in range(4) if rng.random() < share)
            self.look_at(Machine(("a", "b", "c"), 4, steps, 0, (3,)))
            single = tuple((one, letter, rng.randrange(4)) for one in range(4) for letter in letters if rng.random() < share)
            self.look_at(Machine(("a", "b", "c"), 4, single, 0, (1, 2)))
        kinds = ("a", "b", "c", "d", "e")
        for text in ("[*_+ a+ <6,6>_+]", "[<6,6>_- a+ *_-]", "[*{_+ b-} a+ {_+ b-} ?_- *_+]"):
            question = read_question(text)
            self.look_at(machine_of(question, kinds))
            machine = least_machine(question, kinds)
            self.look_at(machine)
            self.assertGreater(count_words(question, kinds, 40), 10 ** 6)
            self.same(word_at(question, kinds, 40, 0), first_of_length(question, kinds, 40))
        one, other = read_question("[*_+ a+ <2,2>_+]"), read_question("[*_+ b+ <2,2>_+]")
        self.same(parting_word(one, other, kinds), (("a", 1), ("a", 1), ("a", 1))[:3])
        self.assertLess(time.time() - started, 6)


def first_of_length(question, kinds, length):
    """The least word of a length, letter by letter, by the states behind it."""
    machine = least_machine(question, kinds)
    lots = [set(machine.ends)]
    for _ in range(length):
        lots.append({step[0] for step in machine.steps if step[2] in lots[-1]})
    word, state = (), machine.start
    for left in range(length - 1, -1, -1):
        letter = min(step[1] for step in machine.steps if step[0] == state and step[2] in lots[left])
        state = machine.next_state(state, letter)
        word = word + (letter,)
    return word
