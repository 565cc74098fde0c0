import itertools
import random
import time

from spelledways.folding import fold_of, folded_word, folds, front_of, is_fold, line_graph
from spelledways.formulas import spells
from spelledways.graphs import is_graph
from spelledways.least import least_machine
from spelledways.questiontext import read_question
from spelledways.search import answers
from spelledways.waysof import turned_word, walk_nodes, walks_of
from tests.common import Case, odd_values
from tests.test_formulas import random_question, words_over

UP, DOWN, B = ("a", 1), ("a", -1), ("b", 1)
WORDS = words_over(("a",), 4)


def random_word(rng, most, kinds=("a", "b")):
    return tuple((rng.choice(kinds), rng.choice([1, -1])) for _ in range(rng.randint(0, most)))


def folding_word(rng, onto, turns):
    """A word that folds onto another one: its line gone along, with some turns."""
    places = [0]
    for _ in range(turns):
        places.append(max(0, min(len(onto), places[-1] + rng.choice([1, -1]))))
    places += range(places[-1], len(onto) + 1)
    places = [place for at, place in enumerate(places) if at == 0 or place != places[at - 1]]
    return tuple(letter_of(onto, one, other) for one, other in zip(places, places[1:])), tuple(places)


def letter_of(onto, one, other):
    """The letter of the step from a place to the next or the last one."""
    if other > one:
        return onto[one]
    return onto[other][0], -onto[other][1]


def both_ways(rng):
    """A question whose words turn often."""
    letters = [("one", "a", 1), ("one", "a", -1), ("one", "b", 1), ("one", "b", -1), ("any", 1), ("any", -1)]
    rows = [("row", tuple(rng.choice(letters) for _ in range(rng.randint(1, 3)))) for _ in range(rng.randint(1, 3))]
    inner = ("star", ("either", tuple(rows)))
    return rng.choice([inner, ("row", (inner, rng.choice(letters))), ("row", (rng.choice(letters), inner))])


def plain_folds(word, onto):
    """All folds, by trying all rows of places."""
    found = []
    for steps in itertools.product((-1, 1), repeat=len(word)):
        places = [0]
        for step in steps:
            places.append(places[-1] + step)
        if min(places) >= 0 and max(places) <= len(onto) and places[-1] == len(onto):
            if all(letter_of(onto, one, other) == letter for one, other, letter in zip(places, places[1:], word)):
                found.append(tuple(places))
    return sorted(found)


def plain_front(machine, word):
    """The front behind a word, by walkers on its line: pairs of a place and a state."""
    def walked(pairs):
        met, waiting = set(pairs), list(pairs)
        while waiting:
            place, state = waiting.pop()
            for other in (place - 1, place + 1):
                if 0 <= other <= len(word):
                    for behind in machine.next_states(state, letter_of(word, place, other)):
                        if (other, behind) not in met:
                            met.add((other, behind))
                            waiting.append((other, behind))
        return sorted(state for place, state in met if place == len(word))
    turns = [(state, other) for state in range(machine.many) for other in walked([(len(word), state)])]
    return tuple(walked([(0, machine.start)])), tuple(turns)


class LineTest(Case):
    def test_the_lines_of_words(self):
        self.same(line_graph(word=((UP), ("b", -1))), (("0", "1", "2"), ((("0", "a", "1"), 1), (("2", "b", "1"), 1))))
        self.same(line_graph(()), (("0",), ()))
        rng = random.Random(341)
        for _ in range(60):
            word = random_word(rng, 12)
            graph = line_graph(word)
            self.assertTrue(is_graph(graph))
            self.same((len(graph[0]), len(graph[1])), (len(word) + 1, len(word)))
            self.assertTrue(all(price == 1 for _, price in graph[1]))
            nodes = [str(at) for at in range(len(word) + 1)]
            if len(word) < 8:
                self.assertIn(tuple(nodes), [walk_nodes(walk) for walk in walks_of(graph, "0", word)])
            lines = {(one, kind, other) if way == 1 else (other, kind, one) for one, (kind, way), other in zip(nodes, word, nodes[1:])}
            self.same(tuple(sorted(lines)), tuple(line for line, _ in graph[1]))
            self.same(tuple(sorted(nodes)), graph[0])
        self.assertTrue(is_graph(line_graph((UP,) * 40)))

    def test_words_fold_where_the_line_has_such_walks(self):
        for onto in words_over(("a",), 3):
            for word in words_over(("a",), 4):
                ends = {str(len(onto))} & {end for walk in walks_of(line_graph(onto), "0", word) for end in self.end(walk)}
                self.assertIs(folds(word, onto), bool(ends))

    def end(self, walk):
        node = walk[0]
        for line, way in walk[1]:
            node = line[2] if way == 1 else line[0]
        return {node}


class FoldTest(Case):
    def test_beside_all_rows_of_places(self):
        rng = random.Random(342)
        words = [(one, other) for one in WORDS for other in words_over(("a",), 3)]
        words += [(random_word(rng, 6), random_word(rng, 4)) for _ in range(100)]
        for _ in range(200):
            onto = random_word(rng, 4)
            words.append((folding_word(rng, onto, rng.randint(0, 5))[0], onto))
        many = 0
        for word, onto in words:
            found = plain_folds(word, onto)
            many += bool(found)
            self.same(fold_of(word, onto), found[0] if found else None)
            self.assertIs(folds(word, onto), bool(found))
            for places in found:
                self.assertIs(is_fold(word, onto, places), True)
            for _ in range(3):
                places = tuple(rng.randint(0, len(onto)) for _ in range(len(word) + rng.choice([0, 1, 1, 2])))
                self.assertIs(is_fold(word, onto, places), places in found)
        self.assertGreater(many, 220)

    def test_edges(self):
        self.same((fold_of((), ()), folds((), ()), is_fold((), (), (0,))), ((0,), True, True))
        self.same((fold_of((), (UP,)), fold_of((UP,), ()), is_fold((), (UP,), (0,))), (None, None, False))
        self.same(fold_of(word=(UP, DOWN, UP), onto=(UP,)), (0, 1, 0, 1))
        self.same(fold_of((UP,), (UP, UP)), None)
        # A word that turns back at its first and at its last place.
        self.same(fold_of((UP, DOWN, UP, UP, DOWN, UP), (UP, UP)), (0, 1, 0, 1, 2, 1, 2))
        # A fold that stands at a place twice; of several the least.
        self.same(fold_of((UP, UP, DOWN, DOWN, UP, UP), (UP, UP)), (0, 1, 2, 1, 0, 1, 2))
        self.same(plain_folds((UP, DOWN, UP, DOWN, UP), (UP, DOWN, UP))[:2], [(0, 1, 0, 1, 2, 3), (0, 1, 2, 1, 2, 3)])
        self.same(fold_of((UP, DOWN, UP, DOWN, UP), (UP, DOWN, UP)), (0, 1, 0, 1, 2, 3))
        self.assertIs(folds(word=(UP, DOWN, UP), onto=(("b", 1),)), False)

    def test_any_value(self):
        word, onto, fold = (UP, DOWN, UP), (UP,), (0, 1, 0, 1)
        self.assertIs(is_fold(word=word, onto=onto, value=fold), True)
        for value in odd_values() + [[0, 1, 0, 1], (0, True, 0, 1), (False, 1, 0, 1), (0, 1, 0), (0, 1, 0, 1, 0), (0, 1, 2, 1), (0, -1, 0, 1), (1, 0, 1, 1),
                                     (0, 1, 0, "1"), (0, 1, None, 1), (0, 0, 0, 1), (0, 1, 1, 1)]:
            self.assertIs(is_fold(word, onto, value), False)
            self.assertIs(is_fold(word, onto, (0, value, 0, 1)), False)

    def test_folds_put_together(self):
        rng = random.Random(343)
        for _ in range(100):
            onto = random_word(rng, 6)
            middle, _ = folding_word(rng, onto, 4)
            word, places = folding_word(rng, middle, 4)
            self.assertIs(is_fold(word, middle, places), True)
            self.assertIs(folds(word, onto), True)
            self.assertIs(folds(turned_word(word), turned_word(middle)), True)

    def test_the_greatest_in_good_time(self):
        started = time.time()
        onto = (UP, ("a", -1)) * 10
        word = (UP, ("a", -1)) * 20
        self.assertEqual((len(onto), len(word)), (20, 40))
        fold = fold_of(word, onto)
        self.assertIs(is_fold(word, onto, fold), True)
        self.same(fold[:22], (0, 1) * 11)
        self.assertLess(time.time() - started, 1)


class FoldedWordTest(Case):
    def test_beside_all_short_words(self):
        rng = random.Random(344)
        seen = {True: 0, False: 0}
        short = sorted(words_over(("a", "b"), 4), key=lambda word: (len(word), word))
        for _ in range(150):
            question = random_question(rng, rng.randint(1, 8))
            onto = random_word(rng, 3)
            found = [word for word in short if folds(word, onto) and spells(question, word)]
            told = folded_word(question, onto)
            if found:
                self.same(told, found[0])
            elif told is not None:
                self.assertGreater(len(told), 4)
                self.assertTrue(spells(question, told) and folds(told, onto))
            # It is there exactly if the line's ends are a pair of the question.
            pair = ("0", str(len(onto)))
            self.assertIs(told is not None, pair in answers(line_graph(onto), question))
            seen[told is not None] += 1
        self.assertGreater(min(seen.values()), 25)

    def test_the_least_of_the_shortest(self):
        zig = ("star", ("either", (("one", "a", 1), ("one", "a", -1))))
        self.same(folded_word(question=zig, onto=(UP, DOWN)), (UP, DOWN))
        self.same(folded_word(("row", (zig, ("one", "a", -1))), (UP,)), None)
        self.same(folded_word(("row", (("one", "a", 1), ("one", "a", -1), zig)), (UP,)), (UP, DOWN, UP))
        self.same(folded_word(("times", ("any", 1), 0, 6), (UP, UP, B)), (UP, UP, B))
        self.same(folded_word(("empty",), ()), ())
        self.same(folded_word(("empty",), (UP,)), None)
        self.same(folded_word(("star", ("any", 1)), (("q", 1),)), (("q", 1),))
        # Up and down by one letter: of the words behind, those of both ways count.
        onto = (UP, DOWN, B, DOWN)
        question = read_question("[a+ a- a+ a- ?a+ b+ ?[b- b+] a-]")
        self.same(folded_word(question, onto), (UP, DOWN, UP, DOWN, B, DOWN))
        self.same(folded_word(read_question("[a+ {a- b+} {a+ b+} a- *_+ a-]"), onto), (UP, DOWN, UP, DOWN, B, DOWN))


class FrontTest(Case):
    def test_beside_walkers_on_the_line(self):
        rng = random.Random(345)
        turned = 0
        for _ in range(160):
            question = rng.choice([random_question(rng, rng.randint(1, 8)), both_ways(rng), both_ways(rng)])
            kinds = rng.choice([("a", "b"), ["a", "b"], ("a", "b", "c")])
            word = random_word(rng, 5, tuple(kinds))
            machine = least_machine(question, kinds)
            told = front_of(question, kinds, word)
            self.same(told, plain_front(machine, word))
            turned += len(told[1]) > machine.many
            # A word of the question folds onto the word exactly if an end is seen.
            self.assertIs(bool(set(told[0]) & set(machine.ends)), folded_word(question, word) is not None)
        self.assertGreater(turned, 15)

    def test_edges(self):
        question = ("star", ("either", (("one", "a", 1), ("row", (("one", "a", -1), ("one", "b", 1))))))
        machine = least_machine(question, ("a", "b"))
        self.same(front_of(question=question, kinds=("a", "b"), word=()), ((0,), tuple((state, state) for state in range(machine.many))))
        self.same(front_of(("either", ()), ("a",), (UP, UP)), ((), ((0, 0),)))
        self.same(front_of(("empty",), (), ()), ((0,), ((0, 0),)))
        self.same(front_of(("row", (("one", "a", 1), ("one", "a", -1), ("one", "a", 1))), ("a",), (UP,)), ((1, 3), ((0, 0), (1, 1), (1, 3), (2, 2), (3, 3))))

    def test_the_next_front_is_told_by_the_front_alone(self):
        rng = random.Random(346)
        for _ in range(40):
            question = both_ways(rng)
            told = {}
            for word in words_over(("a",), 3):
                front = front_of(question, ("a",), word)
                following = tuple(front_of(question, ("a",), word + (letter,)) for letter in (DOWN, UP))
                self.same(told.setdefault(front, following), following)

    def test_the_greatest_in_good_time(self):
        started = time.time()
        question = read_question("[*_+ a+ <6,6>_+]")
        word = (UP, B, DOWN, UP, ("b", -1)) * 8
        self.assertEqual((len(word), least_machine(question, ("a", "b")).many), (40, 128))
        front = front_of(question, ("a", "b", "c"), word)
        self.assertEqual(len(front[1]), 128)
        mixed = read_question("[*{_+ _-} a+ {_+ _-} {_+ _-} ?a-]")
        self.assertTrue(front_of(mixed, ("a", "b", "c"), word)[0])
        for _ in range(20):
            self.assertIsNone(folded_word(question, (UP, DOWN) * 10))
        self.assertLess(time.time() - started, 3)
