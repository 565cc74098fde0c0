import random
import re
import time

from spelledways.errors import InvalidText
from spelledways.graphs import EMPTY, is_graph, need_batch
from spelledways.graphtext import batch_text, graph_text, read_batch, read_graph, read_walk, walk_text
from spelledways.waysof import is_walk
from tests.common import Case, odd_values
from tests.test_graphs import random_deed, random_graph
from tests.test_waysof import random_walk

NAME = "([a-z0-9]{1,4})"
PRICE = "(0|[1-9][0-9]*)"
LINE = f"{NAME} {NAME} {NAME}"
SIGNS = "ab01 +-\n_A|"


def plain_price(text):
    return int(text) if re.fullmatch(PRICE, text) and len(text) < 8 and int(text) <= 10 ** 6 else None


def plain_graph_text(text):
    """The graph that a text tells, or the first wrong row: by patterns, and by sorting anew."""
    alone, lines = [], []
    for at, row in enumerate(text.split("\n") if text else []):
        node = re.fullmatch(NAME, row, re.ASCII)
        line = re.fullmatch(f"{LINE} ([0-9]+)", row, re.ASCII)
        if node and not lines and sorted(set(alone + [row])) == alone + [row]:
            alone.append(row)
            continue
        if not line or plain_price(line[4]) is None or line[1] in alone or line[3] in alone:
            return at
        lines.append((line.groups()[:3], int(line[4])))
        if sorted(set(other for other, _ in lines)) != [other for other, _ in lines]:
            return at
    nodes = set(alone) | {line[0] for line, _ in lines} | {line[2] for line, _ in lines}
    return tuple(sorted(nodes)), tuple(lines)


def plain_batch_text(text):
    """The batch that a text tells, or the first wrong row."""
    deeds = []
    for at, row in enumerate(text.split("\n") if text else []):
        short = re.fullmatch(f"(node|drop) {NAME}", row, re.ASCII)
        cut = re.fullmatch(f"cut {LINE}", row, re.ASCII)
        line = re.fullmatch(f"line {LINE} ([0-9]+)", row, re.ASCII)
        if short:
            deeds.append(short.groups())
        elif cut:
            deeds.append(("cut", cut.groups()))
        elif line and plain_price(line[4]) is not None:
            deeds.append(("line", line.groups()[:3], int(line[4])))
        else:
            return at
    return tuple(deeds)


def plain_walk_text(text):
    """The walk that a text tells, or 0."""
    if not re.fullmatch(f"{NAME}( {NAME}[+-] {NAME})*", text, re.ASCII):
        return 0
    parts = text.split(" ")
    steps = []
    for here, letter, end in zip(parts[::2], parts[1::2], parts[2::2]):
        steps.append(((here, letter[:-1], end), 1) if letter[-1] == "+" else ((end, letter[:-1], here), -1))
    return parts[0], tuple(steps)


def bent_text(rng, text):
    """A text with something else in it, or its rows in another order."""
    choice = rng.randrange(6)
    at = rng.randint(0, len(text))
    if choice == 0:
        return text[:at] + rng.choice(SIGNS) + text[at:]
    if choice == 1:
        return text[:at] + text[at + 1:]
    if choice == 2:
        return text[:at] + rng.choice(SIGNS) + text[at + 1:]
    rows = text.split("\n")
    if choice == 3:
        rng.shuffle(rows)
    elif choice == 4:
        rows.insert(rng.randint(0, len(rows)), rng.choice(rows + ["zzzz", "a", "a x b 3", ""]))
    else:
        rows.pop(rng.randrange(len(rows)))
    return "\n".join(rows)


class TextsTest(Case):
    def look_at(self, text, plain, read, tell):
        wanted = plain(text)
        if isinstance(wanted, int):
            self.told(InvalidText, wanted, read, text)
        else:
            self.same(read(text), wanted)
            self.same(tell(wanted), text)
        return isinstance(wanted, int)

    def test_graphs_there_and_back(self):
        rng = random.Random(201)
        wrong = 0
        for _ in range(150):
            graph = random_graph(rng, rng.randint(0, 8), nodes=["a", "b", "b0", "0", "ab"], kinds=["x", "x0"])
            text = graph_text(graph)
            self.same(read_graph(text), graph)
            for _ in range(15):
                wrong += self.look_at(bent_text(rng, text), plain_graph_text, read_graph, graph_text)
        self.assertGreater(wrong, 500)

    def test_batches_there_and_back(self):
        rng = random.Random(202)
        for _ in range(150):
            batch = tuple(random_deed(rng) for _ in range(rng.randint(0, 8)))
            text = batch_text(rng.choice([tuple, list])(batch))
            self.same(read_batch(text), batch)
            self.assertIsNone(need_batch(read_batch(text)))
            for _ in range(15):
                self.look_at(bent_text(rng, text), plain_batch_text, read_batch, batch_text)

    def test_walks_there_and_back(self):
        rng = random.Random(203)
        for _ in range(150):
            graph = random_graph(rng, 8)
            walk = random_walk(rng, graph, 8)
            text = walk_text(walk)
            self.same(read_walk(text), walk)
            self.assertIs(is_walk(graph, read_walk(text)), True)
            for _ in range(15):
                self.look_at(bent_text(rng, text), plain_walk_text, read_walk, walk_text)

    def test_what_is_told(self):
        graph = (("a", "b", "c", "d"), ((("b", "x", "d"), 0), (("b", "x0", "b"), 10 ** 6)))
        self.same(graph_text(graph=graph), "a\nc\nb x d 0\nb x0 b 1000000")
        self.same(read_graph(value="a\nc\nb x d 0\nb x0 b 1000000"), graph)
        batch = (("node", "a"), ("drop", "b"), ("line", ("a", "x", "c"), 7), ("cut", ("a", "x", "c")))
        self.same(batch_text(batch=batch), "node a\ndrop b\nline a x c 7\ncut a x c")
        self.same(read_batch(value="node a\ndrop b\nline a x c 7\ncut a x c"), batch)
        walk = ("a", ((("a", "bus", "b"), 1), (("c", "bus", "b"), -1), (("c", "x", "c"), -1)))
        self.same(walk_text(walk=walk), "a bus+ b bus- c x- c")
        self.same(read_walk(value="a bus+ b bus- c x- c"), walk)

    def test_empty_texts(self):
        self.same((graph_text(EMPTY), read_graph("")), ("", EMPTY))
        self.same((batch_text(()), batch_text([]), read_batch("")), ("", "", ()))
        self.same((walk_text(("a", ())), read_walk("a")), ("a", ("a", ())))
        self.told(InvalidText, 0, read_walk, "")
        for read in (read_graph, read_batch):
            self.told(InvalidText, 0, read, "\n")
            self.told(InvalidText, 0, read, " ")
            self.told(InvalidText, -1, read, None)

    def test_wrong_graphs(self):
        for text, at in (("a\n", 1), ("a\na", 1), ("b\na", 1), ("a x b 1\nc", 1), ("a x b 01", 0), ("a x b 00", 0), ("a x b +1", 0),
                         ("a x b -1", 0), ("a x b 1000001", 0), ("a x b", 0), ("a x b 1 ", 0), (" a", 0), ("a  x b 1", 0), ("a x b 1 1", 0),
                         ("a\na x b 1", 1), ("b\na x b 1", 1), ("c\na x b 1", None), ("a x b 1\na x b 1", 1), ("a x b 1\na x b 2", 1),
                         ("b x a 1\na x b 1", 1), ("a x b 1\na x0 b 1\nA", 2), ("abcde", 0), ("a\n\nb", 1), ("a x b \u0663", 0),
                         ("a x b \u00b2", 0), ("\u00e4", 0), ("a x b 1_0", 0), ("a x b 1\r", 0), ("a\tb", 0), ("a x b " + "9" * 30, 0),
                         ("a x b " + "1" * 5000, 0), ("c\nd x d 1\nd x c 1", 2), ("a x b 1e3", 0)):
            if at is None:
                self.assertIs(is_graph(read_graph(text)), True)
            else:
                self.told(InvalidText, at, read_graph, text)

    def test_wrong_batches_and_walks(self):
        for text, at in (("node", 0), ("node a b", 0), ("node A", 0), ("Node a", 0), ("node a\n", 1), ("line a x b", 0), ("line a x b 01", 0),
                         ("line a x b 1000001", 0), ("cut a x", 0), ("cut a x b 1", 0), ("drop a\ndrop", 1), ("node  a", 0), ("node a ", 0),
                         ("a", 0), ("cut a x abcde", 0), ("node a|node b", 0)):
            self.told(InvalidText, at, read_batch, text)
        for text in ("a ", " a", "a b", "a x+", "a x b", "a x+ b ", "a x+  b", "a + b", "a x+ B", "A", "a x* b", "a x++ b", "a x+ b y", "a\n",
                     "a abcde+ b", "abcde", "a x+ b\n", "a -x b", "a \u00b2+ b"):
            self.told(InvalidText, 0, read_walk, text)

    def test_any_value(self):
        for value in odd_values():
            for read in (read_graph, read_batch, read_walk):
                if not isinstance(value, str):
                    self.told(InvalidText, -1, read, value)
                elif value != "" or read is read_walk:
                    self.told(InvalidText, 0, read, value)

    def test_long_texts_in_good_time(self):
        started = time.time()
        batch = tuple(("line", ("a", "x", str(at)), 10 ** 6) for at in range(60)) * 2
        self.same(read_batch(batch_text(batch)), batch)
        graph = random_graph(random.Random(5), 300, nodes=[str(at) for at in range(12)], kinds=["x", "y"])
        self.same(read_graph(graph_text(graph)), graph)
        self.assertLess(time.time() - started, 2)
