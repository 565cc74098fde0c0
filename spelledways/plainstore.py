"""A store as plain graphs: it asks everything anew and frees nothing, and has no disk."""

from spelledways.errors import NoName, Refused
from spelledways.formulas import need_question
from spelledways.graphs import all_done, need_batch
from spelledways.places import need_ask
from spelledways.plain import is_number
from spelledways.search import answers, walk_for
from spelledways.shut import shut_set
from spelledways.store import breaking_walk, need_name, need_new_name, need_watcher
from spelledways.watchers import effect_of


def broken_rules(rules, graph):
    """The rules that a graph breaks, by ascending names, each with the first walk that spells its question."""
    walks = [(name, breaking_walk(graph, rules[name])) for name in sorted(rules)]
    return tuple([pair for pair in walks if pair[1] is not None])


class PlainStore:
    """What a store means, with the store's methods that tell of it or change it."""

    def __init__(self, memory):
        past, drawn, standing, undone, readers, rules, kept, watchers, lasts = memory
        # The graphs at the stamps from the sure one to now.
        self._sure = past[0]
        self._graphs = list(past[1])
        self._drawn = drawn
        self._standing = list(standing)
        self._undone = list(undone)
        self._readers = {number: graph for number, graph in readers}
        self._rules = {name: question for name, question in rules}
        self._questions = {name: question for name, question in kept}
        self._watched = {number: name for number, name, _ in watchers}
        self._words = {number: words for number, _, words in watchers}
        self._last_reader = lasts[0]
        self._last_watcher = lasts[1]

    def memory(self):
        """What is known: the nine things of which `meaning` tells, in their order."""
        return (
            (self._sure, tuple(self._graphs)),
            self._drawn,
            tuple(self._standing),
            tuple(self._undone),
            tuple([(number, self._readers[number]) for number in sorted(self._readers)]),
            tuple([(name, self._rules[name]) for name in self.rules()]),
            tuple([(name, self._questions[name]) for name in self.names()]),
            tuple([(number, self._watched[number], self._words[number]) for number in sorted(self._watched)]),
            (self._last_reader, self._last_watcher),
        )

    def graph(self, number=None):
        """The graph of now, or of a reader."""
        if number is None:
            return self._graphs[-1]
        need_reader(number, self._readers)
        return self._readers[number]

    def broken_by(self, batch):
        """The rules that the graph behind a batch would break, each with the first walk that spells its question."""
        need_batch(batch)
        return broken_rules(self._rules, all_done(self.graph(), batch))

    def change(self, batch):
        """Do the deeds of a batch; return the stamp of now."""
        need_batch(batch)
        ahead = self.graph()
        behind = all_done(ahead, batch)
        self._need_rules(behind)
        if behind != ahead:
            self._standing.append(ahead)
            self._undone = []
            self._commit(behind)
        return self._stamp_of_now()

    def undo(self):
        """Take back the last batch that stands; return whether there was one."""
        if not self._standing:
            return False
        self._need_rules(self._standing[-1])
        self._undone.append(self.graph())
        self._commit(self._standing.pop())
        return True

    def redo(self):
        """Do again what was taken back last; return whether there was such a batch."""
        if not self._undone:
            return False
        self._need_rules(self._undone[-1])
        self._standing.append(self.graph())
        self._commit(self._undone.pop())
        return True

    def look(self):
        """Begin a reader; return its number."""
        self._last_reader += 1
        self._readers[self._last_reader] = self.graph()
        return self._last_reader

    def leave(self, number):
        """End a reader."""
        need_reader(number, self._readers)
        del self._readers[number]

    def ask(self, question, number=None):
        """The pairs of nodes that a question joins in the graph of now, or of a reader."""
        graph = self.graph(number)
        need_question(question)
        return answers(graph, question)

    def walk(self, ask, number=None):
        """The first walk that answers an ask in the graph of now, or of a reader; None if there is none."""
        graph = self.graph(number)
        need_ask(ask)
        return walk_for(graph, ask)

    def shut(self, ask, number=None):
        """The shut set of an ask in the graph of now, or of a reader; None if some walk answers it."""
        graph = self.graph(number)
        need_ask(ask)
        return shut_set(graph, ask) if walk_for(graph, ask) is None else None

    def keep(self, name, question):
        """Keep a question from now on; return its pairs."""
        need_new_name(name, question, self._questions)
        self._questions[name] = question
        return self.kept(name)

    def kept(self, name):
        """The pairs of a kept question."""
        need_name(name, self._questions)
        return answers(self.graph(), self._questions[name])

    def let_go(self, name):
        """End a kept question that nobody watches."""
        need_name(name, self._questions)
        if name in list(self._watched.values()):
            raise Refused("watched")
        del self._questions[name]

    def names(self):
        """The names of the kept questions, ascending."""
        return tuple(sorted(self._questions))

    def forbid(self, name, question):
        """Make a rule: from now on no walk may spell a question."""
        need_new_name(name, question, self._rules)
        if breaking_walk(self.graph(), question) is not None:
            raise Refused("broken")
        self._rules[name] = question

    def allow(self, name):
        """End a rule."""
        need_name(name, self._rules)
        del self._rules[name]

    def rules(self):
        """The names of the rules, ascending."""
        return tuple(sorted(self._rules))

    def watch(self, name):
        """Begin a watcher of a kept question; return its number."""
        need_name(name, self._questions)
        self._last_watcher += 1
        self._watched[self._last_watcher] = name
        self._words[self._last_watcher] = ()
        return self._last_watcher

    def heard(self, number):
        """The words of a watcher that it has not been told yet."""
        need_watcher(number, self._watched)
        words = self._words[number]
        self._words[number] = ()
        return words

    def unwatch(self, number):
        """End a watcher."""
        need_watcher(number, self._watched)
        del self._watched[number], self._words[number]

    def sync(self):
        """Make sure of all commits."""
        self._make_sure(self._stamp_of_now())

    def draw(self):
        """Draw an image of now."""
        self._drawn = self._stamp_of_now()

    def settle(self):
        """Make sure of what stood when the image was drawn that was drawn last, if it is not settled."""
        if self._drawn is not None:
            self._make_sure(max(self._sure, self._drawn))
            self._drawn = None

    def sure(self):
        """The least stamp that any cut leaves now."""
        return self._sure

    def _stamp_of_now(self):
        return self._sure + len(self._graphs) - 1

    def _make_sure(self, stamp):
        self._graphs = self._graphs[stamp - self._sure:]
        self._sure = stamp

    def _need_rules(self, graph):
        broken = broken_rules(self._rules, graph)
        if broken:
            raise Refused(broken[0][0])

    def _commit(self, graph):
        """Go from the graph of now to another one by one commit."""
        ahead = self.graph()
        self._graphs.append(graph)
        effects = {}
        for name in sorted(set(list(self._watched.values()))):
            question = self._questions[name]
            effects[name] = effect_of(answers(ahead, question), answers(graph, question))
        for number, name in self._watched.items():
            came, went = effects[name]
            if came or went:
                self._words[number] = self._words[number] + ((self._stamp_of_now(), came, went),)


def need_reader(number, table):
    """Raise NoName unless a value is the number of a reader in a table."""
    if not is_number(number) or number not in table:
        raise NoName(number)
