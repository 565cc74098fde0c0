"""Calls of a store's methods as tuples of their names and arguments, and what they tell."""

from spelledways.errors import InvalidAsk, InvalidDeed, InvalidQuestion, InvalidSize, NoName, Refused


def call_graph(store, call):
    """The call of `graph`."""
    return store.graph(call[1])


def call_broken_by(store, call):
    """The call of `broken_by`."""
    return store.broken_by(call[1])


def call_change(store, call):
    """The call of `change`."""
    return store.change(call[1])


def call_undo(store, _):
    """The call of `undo`."""
    return store.undo()


def call_redo(store, _):
    """The call of `redo`."""
    return store.redo()


def call_look(store, _):
    """The call of `look`."""
    return store.look()


def call_leave(store, call):
    """The call of `leave`."""
    return store.leave(call[1])


def call_ask(store, call):
    """The call of `ask`."""
    return store.ask(call[1], call[2])


def call_walk(store, call):
    """The call of `walk`."""
    return store.walk(call[1], call[2])


def call_shut(store, call):
    """The call of `shut`."""
    return store.shut(call[1], call[2])


def call_keep(store, call):
    """The call of `keep`."""
    return store.keep(call[1], call[2])


def call_kept(store, call):
    """The call of `kept`."""
    return store.kept(call[1])


def call_let_go(store, call):
    """The call of `let_go`."""
    return store.let_go(call[1])


def call_names(store, _):
    """The call of `names`."""
    return store.names()


def call_forbid(store, call):
    """The call of `forbid`."""
    return store.forbid(call[1], call[2])


def call_allow(store, call):
    """The call of `allow`."""
    return store.allow(call[1])


def call_rules(store, _):
    """The call of `rules`."""
    return store.rules()


def call_watch(store, call):
    """The call of `watch`."""
    return store.watch(call[1])


def call_heard(store, call):
    """The call of `heard`."""
    return store.heard(call[1])


def call_unwatch(store, call):
    """The call of `unwatch`."""
    return store.unwatch(call[1])


def call_sync(store, _):
    """The call of `sync`."""
    return store.sync()


def call_draw(store, _):
    """The call of `draw`."""
    return store.draw()


def call_settle(store, _):
    """The call of `settle`."""
    return store.settle()


def call_sure(store, _):
    """The call of `sure`."""
    return store.sure()


ACTIONS = {
    "graph": call_graph, "broken_by": call_broken_by, "change": call_change, "undo": call_undo, "redo": call_redo,
    "look": call_look, "leave": call_leave, "ask": call_ask, "walk": call_walk, "shut": call_shut, "keep": call_keep,
    "kept": call_kept, "let_go": call_let_go, "names": call_names, "forbid": call_forbid, "allow": call_allow,
    "rules": call_rules, "watch": call_watch, "heard": call_heard, "unwatch": call_unwatch, "sync": call_sync,
    "draw": call_draw, "settle": call_settle, "sure": call_sure,
}
# How many things a call is, with its word.
SIZES = {
    "graph": 2, "broken_by": 2, "change": 2, "undo": 1, "redo": 1, "look": 1, "leave": 2, "ask": 3, "walk": 3,
    "shut": 3, "keep": 3, "kept": 2, "let_go": 2, "names": 1, "forbid": 3, "allow": 2, "rules": 1, "watch": 2,
    "heard": 2, "unwatch": 2, "sync": 1, "draw": 1, "settle": 1, "sure": 1,
}


def is_call(value):
    """Whether a value is a tuple of the name of one of these methods and as many arguments as it has."""
    if not isinstance(value, tuple) or not value or not isinstance(value[0], str):
        return False
    return len(value) == SIZES.get(value[0], -1)


def outcome_of(store, call):
    """Do a call; return the pair of "told" and what it tells, or of the name of its error and what this keeps."""
    action = ACTIONS[call[0]]
    try:
        return "told", action(store, call)
    except InvalidDeed as wrong_deed:
        return "InvalidDeed", wrong_deed.at
    except InvalidQuestion as wrong_question:
        return "InvalidQuestion", wrong_question.at
    except InvalidAsk as wrong_ask:
        return "InvalidAsk", wrong_ask.at
    except InvalidSize as wrong_size:
        return "InvalidSize", wrong_size.word
    except Refused as refusal:
        return "Refused", refusal.word
    except NoName as missing:
        return "NoName", missing.name
