"""The errors of the package. Each keeps what it is made with, as it is."""


class StoreError(Exception):
    """The base of all errors but NoName."""


class InvalidKey(StoreError):
    """What should be a key, or has one in a place, is wrong at a place."""

    def __init__(self, at):
        self.at = at


class InvalidValue(StoreError):
    """What should be a value, or has one in a place, is wrong at a place."""

    def __init__(self, at):
        self.at = at


class InvalidRange(StoreError):
    """What should be a range is wrong at an end."""

    def __init__(self, at):
        self.at = at


class InvalidOctets(StoreError):
    """Octets tell no such thing from a place on."""

    def __init__(self, at):
        self.at = at


class InvalidGraph(StoreError):
    """What should be a graph, or its map, is wrong at a place."""

    def __init__(self, at):
        self.at = at


class InvalidLine(StoreError):
    """What should be a line is wrong in a part."""

    def __init__(self, at):
        self.at = at


class InvalidWalk(StoreError):
    """What should be a walk is wrong from a step on."""

    def __init__(self, at):
        self.at = at


class InvalidQuestion(StoreError):
    """What should be a question is wrong in a part."""

    def __init__(self, at):
        self.at = at


class InvalidAsk(StoreError):
    """What should be an ask is wrong in a thing."""

    def __init__(self, at):
        self.at = at


class InvalidPattern(StoreError):
    """What should be a pattern is wrong in an ask."""

    def __init__(self, at):
        self.at = at


class InvalidDeed(StoreError):
    """What should be a deed, or a batch, is wrong at a place."""

    def __init__(self, at):
        self.at = at


class InvalidText(StoreError):
    """What should be a text is wrong at a place."""

    def __init__(self, at):
        self.at = at


class InvalidSize(StoreError):
    """What the word names is no such thing, or is too small or too great."""

    def __init__(self, word):
        self.word = word


class InvalidCommand(StoreError):
    """What should be a command is none."""

    def __init__(self):
        """Nothing is kept."""


class Refused(StoreError):
    """What was asked for can't be done; the word tells why."""

    def __init__(self, word):
        self.word = word


class NoName(KeyError):
    """Nothing has this name."""

    def __init__(self, name):
        self.name = name
