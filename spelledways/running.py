"""What a store means, told by plain graphs, and rows of calls and cuts."""

from spelledways.calls import is_call, outcome_of
from spelledways.errors import InvalidCommand, InvalidSize
from spelledways.plain import is_number, is_sequence, is_tuple_of
from spelledways.plainstore import PlainStore
from spelledways.store import Store


def meaning(store):
    """What a store means: all that its calls and cuts tell hangs on this alone."""
    return store.memory()


def behind_cut(state, stamp):
    """What a store means that is opened behind a cut that leaves a stamp."""
    sure, graphs = state[0]
    if not is_number(stamp) or stamp < sure or stamp >= sure + len(graphs):
        raise InvalidSize("stamp")
    return (stamp, (graphs[stamp - sure],)), None, (), (), (), (), (), (), (0, 0)


def step(state, call):
    """What a store means behind a call, and the outcome of the call."""
    if not is_call(call):
        raise InvalidCommand()
    plain = PlainStore(state)
    outcome = outcome_of(plain, call)
    return plain.memory(), outcome


def is_cut(value):
    """Whether a value is a tuple of the word "cut" and one thing."""
    return is_tuple_of(value, 2) and isinstance(value[0], str) and value[0] == "cut"


def behind_call(store, call):
    """The store behind a call, which is another one behind a cut, and the outcome."""
    if not is_cut(call):
        return store, outcome_of(store, call)
    try:
        opened = Store(store.cut(call[1]))
    except InvalidSize as wrong_cut:
        return store, ("InvalidSize", wrong_cut.word)
    return opened, ("told", opened.now)


def run(calls):
    """Do calls and cuts on a new store; return their outcomes, and what the store means at the end."""
    if not is_sequence(calls) or not all([is_call(call) or is_cut(call) for call in calls]):
        raise InvalidCommand()
    store = Store()
    outcomes = []
    for call in calls:
        store, outcome = behind_call(store, call)
        outcomes.append(outcome)
    return tuple(outcomes), meaning(store)
