"""Questions: formulas over kinds, forwards and backwards, and the words that they spell."""

from spelledways.errors import InvalidQuestion, InvalidSize
from spelledways.graphs import ascending, is_kind, is_way
from spelledways.plain import is_sequence, is_whole

FORM_SIZES = {"one": 3, "any": 2, "empty": 1, "row": 2, "either": 2, "star": 2, "some": 2, "maybe": 2, "times": 4}
MOST_TIMES = 6
STRANGE_SIGNS = "0123456789abcdefghijklmnopqrstuvwxyz"


def has_form(value):
    """Whether a value is a tuple of one of the forms, whatever stands in it as a part."""
    if not isinstance(value, tuple) or not value or not isinstance(value[0], str):
        return False
    word = value[0]
    if len(value) != FORM_SIZES.get(word, -1):
        return False
    if word == "one":
        return is_kind(value[1]) and is_way(value[2])
    if word == "any":
        return is_way(value[1])
    if word == "row" or word == "either":
        return isinstance(value[1], tuple)
    if word == "times":
        return is_whole(value[2]) and is_whole(value[3]) and 0 <= value[2] <= value[3] <= MOST_TIMES
    return True


def parts_of(question):
    """The parts that stand directly in a question."""
    if question[0] == "row" or question[0] == "either":
        return question[1]
    if question[0] == "star" or question[0] == "some" or question[0] == "maybe" or question[0] == "times":
        return (question[1],)
    return ()


def all_parts(question):
    """The list of a question's parts as they are numbered: itself, then each part with all within it."""
    found = [question]
    for part in parts_of(question):
        found.extend(all_parts(part))
    return found


def question_fault(value):
    """What InvalidQuestion tells of a value; None for a question."""
    waiting = [value]
    number = 0
    while waiting:
        part = waiting.pop()
        if not has_form(part):
            return number
        waiting.extend(parts_of(part)[::-1])
        number += 1
    return None


def is_question(value):
    """Whether a value is a question."""
    return question_fault(value) is None


def need_question(value):
    """Raise InvalidQuestion unless a value is a question."""
    at = question_fault(value)
    if at is not None:
        raise InvalidQuestion(at)


def need_kinds(value):
    """Raise InvalidSize("kinds") unless a value is an ascending sequence of unlike kinds."""
    if not is_sequence(value):
        raise InvalidSize("kinds")
    for at, kind in enumerate(value):
        if not is_kind(kind) or (at > 0 and kind <= value[at - 1]):
            raise InvalidSize("kinds")


def letters_over(kinds):
    """All letters of some kinds, ascending."""
    return ascending([(kind, way) for kind in kinds for way in (-1, 1)])


def kinds_in(question):
    """The kinds that a question names, ascending."""
    return ascending([part[1] for part in all_parts(question) if part[0] == "one"])


def question_size(question):
    """The number of parts of a question, with itself."""
    return len(all_parts(question))


def question_spread(question):
    """How many letters a question has when each of its times is written out."""
    if question[0] == "one" or question[0] == "any":
        return 1
    spread = sum([question_spread(part) for part in parts_of(question)])
    return question[3] * spread if question[0] == "times" else spread


def spells_empty(question):
    """Whether a question spells the empty word."""
    return spells(question, ())


def spells(question, word):
    """Whether a question spells a word."""
    return len(word) in reach_of(question, word)[0]


def reach_of(question, word):
    """For each place in a word, and behind it, the ascending tuple of the places to which the question spells on."""
    # This is told part by part for all places at once: else stars in stars would be gone through again and again.
    form = question[0]
    if form == "one" or form == "any":
        return [letter_reach(question, word, at) for at in range(len(word))] + [()]
    parts = [reach_of(part, word) for part in parts_of(question)]
    if form == "either":
        return united([[() for _ in range(len(word) + 1)]] + parts)
    stay = [(at,) for at in range(len(word) + 1)]
    if form == "empty" or form == "row":
        return in_a_row([stay] + parts)
    if form == "maybe":
        return united([stay] + parts)
    if form == "times":
        return repeated(stay, parts[0], question[2], question[3])
    rounds = starred(stay, parts[0])
    return rounds if form == "star" else in_a_row([parts[0], rounds])


def letter_reach(question, word, at):
    """The place behind the letter at a place, if "one" or "any" reads it."""
    kind, way = word[at]
    reads = question[-1] == way and (question[0] == "any" or question[1] == kind)
    return (at + 1,) if reads else ()


def united(reaches):
    """Where at least one of some reaches leads, from each place."""
    return [ascending([place for reach in reaches for place in reach[at]]) for at in range(len(reaches[0]))]


def in_a_row(reaches):
    """Where some reaches lead, one behind the other, from each place."""
    found = reaches[0]
    for reach in reaches[1:]:
        found = [ascending([place for middle in places for place in reach[middle]]) for places in found]
    return found


def starred(stay, reach):
    """Where a reach leads, any number of times."""
    found = []
    wider = stay
    while found != wider:
        found = wider
        wider = united([found, in_a_row([found, reach])])
    return found


def repeated(stay, reach, low, high):
    """Where a reach leads, low to high times."""
    latest = in_a_row([stay] + [reach] * low)
    found = latest
    for _ in range(high - low):
        latest = in_a_row([latest, reach])
        found = united([found, latest])
    return found


def turned_question(question):
    """The question that spells just the turned words."""
    form = question[0]
    if form == "one" or form == "any":
        return question[:-1] + (-question[-1],)
    if form == "row":
        return form, tuple([turned_question(part) for part in question[1][::-1]])
    if form == "either":
        return form, tuple([turned_question(part) for part in question[1]])
    if form == "empty":
        return question
    return (form, turned_question(question[1])) + question[2:]


def strange_kind(kinds):
    """The first kind of one sign that is not among some kinds."""
    for sign in STRANGE_SIGNS:
        if sign not in kinds:
            return sign
    return None


def wide_kinds(one, other):
    """The kinds that two questions name, and the strange one for these, ascending."""
    named = kinds_in(one) + kinds_in(other)
    return ascending(named + (strange_kind(named),))
