"""The store: a graph on a disk, with readers, kept questions, watchers and rules."""

from spelledways.errors import InvalidOctets, InvalidSize, NoName, Refused
from spelledways.files import is_disk
from spelledways.formulas import need_question
from spelledways.freeing import Keeper, gone
from spelledways.graphs import all_done, between, need_batch
from spelledways.kept import Kept
from spelledways.lines import graph_of_map, is_graph_map, map_changes
from spelledways.log import Journal
from spelledways.places import need_ask
from spelledways.plain import is_name, is_number
from spelledways.search import answers, walk_for
from spelledways.shut import shut_set
from spelledways.versions import versions_from


def opened_journal(start):
    """The journal of a disk that has a graph."""
    if not is_disk(start):
        raise InvalidOctets(-1)
    journal = Journal(start)
    if not is_graph_map(journal.entries) or (journal.stamp == 0 and journal.entries):
        raise Refused("graph")
    return journal


def keeper_of(entries, now):
    """A keeper that has one version of each key of a map, at the stamp of now."""
    keeper = Keeper()
    keeper.versions = versions_from(tuple([(key, ((now, value),)) for key, value in entries]), now, ())
    return keeper


def breaking_walk(graph, question):
    """The first walk of a graph that spells a question, or None."""
    return walk_for(graph, (None, question, None))


class Store:
    """A graph that changes by commits. To be looked at alone: the stamp `now`, the `journal`, and the `keeper`."""

    def __init__(self, start=((), (), ())):
        self.start = start
        self.journal = opened_journal(start)
        self.now = self.journal.stamp
        self.keeper = keeper_of(self.journal.entries, self.now)
        self._graph = graph_of_map(self.journal.entries)
        # The graphs of all stamps since the store was opened: a cut may leave any of them that is not sure.
        self._past = [self._graph]
        # Of each batch that stands, or can be done again, the graphs ahead of it and behind it.
        self._standing = []
        self._undone = []
        self._kept = {}
        self._questions = {}
        self._rules = {}
        self._watched = {}
        self._words = {}
        self._last_reader = 0
        self._last_watcher = 0

    def graph(self, number=None):
        """The graph of now, or of a reader."""
        return self._graph if number is None else graph_of_map(self.keeper.scan(number, None, None))

    def broken_by(self, batch):
        """The rules that the graph behind a batch would break, each with the first walk that spells its question."""
        need_batch(batch)
        graph = all_done(self._graph, batch)
        walks = [(name, breaking_walk(graph, self._rules[name])) for name in self.rules()]
        return tuple([pair for pair in walks if pair[1] is not None])

    def change(self, batch):
        """Do the deeds of a batch, a commit if the graph is another one behind them; return the stamp of now."""
        need_batch(batch)
        ahead = self._graph
        behind = all_done(ahead, batch)
        self._need_rules(behind)
        if behind != ahead:
            self._commit(behind)
            self._standing.append((ahead, behind))
            self._undone = []
        return self.now

    def undo(self):
        """Take back the last batch that stands; return whether there was one."""
        if not self._standing:
            return False
        self._need_rules(self._standing[-1][0])
        self._undone.append(self._standing.pop())
        self._commit(self._undone[-1][0])
        return True

    def redo(self):
        """Do again what was taken back last, if no change was made since; return whether there was such a batch."""
        if not self._undone:
            return False
        self._need_rules(self._undone[-1][1])
        self._standing.append(self._undone.pop())
        self._commit(self._standing[-1][1])
        return True

    def look(self):
        """Begin a reader, which sees the graph of now for ever; return its number."""
        self._last_reader = self.keeper.begin()
        return self._last_reader

    def leave(self, number):
        """End a reader."""
        self.keeper.close(number)

    def costs(self, number):
        """The pairs of a key and a version that would go if a reader ended now, ascending."""
        snapshots = self.keeper.snapshots
        stamp = snapshots.stamp_of(number)
        stays = len(snapshots.holders(stamp)) > 1
        stamps = [other for other in snapshots.live() if stays or other != stamp]
        return gone(self.keeper.versions.rows(), stamps)

    def ask(self, question, number=None):
        """The pairs of nodes that a question joins in the graph of now, or of a reader."""
        graph = self.graph(number)
        need_question(question)
        return answers(graph, question)

    def walk(self, ask, number=None):
        """The first walk that answers an ask in the graph of now, or of a reader; None if there is none."""
        graph = self.graph(number)
        need_ask(ask)
        return walk_for(graph, ask)

    def shut(self, ask, number=None):
        """The shut set of an ask in the graph of now, or of a reader; None if some walk answers it."""
        graph = self.graph(number)
        need_ask(ask)
        return shut_set(graph, ask) if walk_for(graph, ask) is None else None

    def keep(self, name, question):
        """Keep a question up from now on; return its pairs."""
        need_new_name(name, question, self._kept)
        self._kept[name] = Kept(self._graph, question)
        self._questions[name] = question
        return self.kept(name)

    def kept(self, name):
        """The pairs of a kept question."""
        need_name(name, self._kept)
        return self._kept[name].pairs()

    def kept_walk(self, name, one, other):
        """The first walk between two nodes that spells a kept question, or None."""
        need_name(name, self._kept)
        return self.walk((one, self._questions[name], other))

    def let_go(self, name):
        """End a kept question that nobody watches."""
        need_name(name, self._kept)
        if name in list(self._watched.values()):
            raise Refused("watched")
        del self._kept[name], self._questions[name]

    def names(self):
        """The names of the kept questions, ascending."""
        return tuple(sorted(self._kept))

    def forbid(self, name, question):
        """Make a rule: from now on no walk may spell a question."""
        need_new_name(name, question, self._rules)
        if breaking_walk(self._graph, question) is not None:
            raise Refused("broken")
        self._rules[name] = question

    def allow(self, name):
        """End a rule."""
        need_name(name, self._rules)
        del self._rules[name]

    def rules(self):
        """The names of the rules, ascending."""
        return tuple(sorted(self._rules))

    def watch(self, name):
        """Begin a watcher of a kept question; return its number."""
        need_name(name, self._kept)
        self._last_watcher += 1
        self._watched[self._last_watcher] = name
        self._words[self._last_watcher] = ()
        return self._last_watcher

    def heard(self, number):
        """The words of a watcher that it has not been told yet."""
        need_watcher(number, self._watched)
        words = self._words[number]
        self._words[number] = ()
        return words

    def unwatch(self, number):
        """End a watcher."""
        need_watcher(number, self._watched)
        del self._watched[number], self._words[number]

    def sync(self):
        """Make sure of the log."""
        self.journal.sync()

    def draw(self):
        """Draw an image of now."""
        self.journal.draw()

    def settle(self):
        """Make sure of the image that was drawn last."""
        self.journal.settle()

    def sure(self):
        """The least stamp that any cut leaves now."""
        return self.journal.sure()

    def choices(self):
        """For each file of the disk how many beginnings of its steps a cut may leave."""
        return self.journal.choices()

    def cut(self, numbers):
        """The disk behind a cut that leaves so many steps of each file."""
        return self.journal.cut(numbers)

    def disk(self):
        """The disk of now."""
        return self.journal.disk()

    def memory(self):
        """What the store knows: the nine things of which `meaning` tells, in their order."""
        sure = self.sure()
        snapshots = self.keeper.snapshots
        readers = sorted([number for stamp in snapshots.live() for number in snapshots.holders(stamp)])
        return (
            (sure, tuple(self._past[len(self._past) - 1 - self.now + sure:])),
            self.journal.drawn(),
            tuple([ahead for ahead, _ in self._standing]),
            tuple([behind for _, behind in self._undone]),
            tuple([(number, self.graph(number)) for number in readers]),
            tuple([(name, self._rules[name]) for name in self.rules()]),
            tuple([(name, self._questions[name]) for name in self.names()]),
            tuple([(number, self._watched[number], self._words[number]) for number in sorted(self._watched)]),
            (self._last_reader, self._last_watcher),
        )

    def _need_rules(self, graph):
        for name in self.rules():
            if breaking_walk(graph, self._rules[name]) is not None:
                raise Refused(name)

    def _commit(self, graph):
        """Go from the graph of now to another one by one commit."""
        batch = between(self._graph, graph)
        writes = map_changes(self._graph, graph)
        self.journal.write(writes)
        self.keeper.commit(writes)
        self.now += 1
        self._graph = graph
        self._past.append(graph)
        for name in self.names():
            came, went = self._kept[name].change(batch)
            if came or went:
                self._tell(name, (self.now, came, went))

    def _tell(self, name, word):
        for number in self._watched:
            if self._watched[number] == name:
                self._words[number] = self._words[number] + (word,)


def need_name(name, table):
    """Raise NoName unless a value is a name that is in a table."""
    if not isinstance(name, str) or name not in table:
        raise NoName(name)


def need_new_name(name, question, table):
    """Raise the error of a wrong name, a wrong question, or a name that is in a table already."""
    if not is_name(name):
        raise InvalidSize("name")
    need_question(question)
    if name in table:
        raise Refused("name")


def need_watcher(number, table):
    """Raise NoName unless a value is the number of a watcher in a table."""
    if not is_number(number) or number not in table:
        raise NoName(number)
