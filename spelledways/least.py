"""Least machines, and papers that show that none has fewer states."""

from spelledways.errors import InvalidSize
from spelledways.graphs import is_way
from spelledways.machines import as_tuples, machine_of
from spelledways.plain import is_number, is_tuple_of
from spelledways.singles import is_end_in, least_of_table, paired_table, table_of, turned_table

BOTH = ((True, True),)
EITHER = ((True, True), (True, False), (False, True))
FIRST_ALONE = ((True, False),)
JUST_ONE = ((True, False), (False, True))


def least(machine):
    """The single machine with the fewest states that accepts the same words, its states numbered as they are met."""
    return least_of_table(machine.kinds, table_of(machine))


def least_machine(question, kinds):
    """The least machine of the words over some kinds that a question spells."""
    return least(machine_of(question, kinds))


def paired_machine(one, other, wanted):
    """The least machine of the words for which what the two accept is among these pairs."""
    if tuple(one.kinds) != tuple(other.kinds):
        raise InvalidSize("kinds")
    return least_of_table(one.kinds, paired_table(one.kinds, table_of(one), table_of(other), wanted))


def machine_both(one, other):
    """The least machine of what both accept."""
    return paired_machine(one, other, BOTH)


def machine_either(one, other):
    """The least machine of what at least one accepts."""
    return paired_machine(one, other, EITHER)


def machine_but(one, other):
    """The least machine of what the first alone accepts."""
    return paired_machine(one, other, FIRST_ALONE)


def machine_apart(one, other):
    """The least machine of what just one accepts."""
    return paired_machine(one, other, JUST_ONE)


def turned_machine(machine):
    """The least machine of the turned words."""
    return least_of_table(machine.kinds, turned_table(machine))


def state_heads(machine):
    """For each state of a least machine the first word that leads there from the start."""
    # States are numbered as they are met, and steps ascend: so the first step into a state ends the first word.
    heads = {machine.start: ()}
    for state, letter, behind in as_tuples(machine.steps):
        if behind not in heads:
            heads[behind] = heads[state] + (letter,)
    return tuple([heads[state] for state in range(machine.many)])


def state_goes(machine):
    """For each state of a least machine the first word that leads from it to an end; the empty one if none does."""
    rows = table_of(machine)[0]
    goes = {state: () for state in machine.ends}
    while True:
        longer = {}
        for state in range(machine.many):
            letter = None if state in goes else first_key(rows[state], goes)
            if letter is not None:
                longer[state] = (letter,) + goes[rows[state][letter]]
        if not longer:
            return tuple([goes.get(state, ()) for state in range(machine.many)])
        for state, word in longer.items():
            goes[state] = word


def first_key(row, wanted):
    """The first key of a dict whose value is a key of another one, or None."""
    for key in row:
        if row[key] in wanted:
            return key
    return None


def pairs_behind(rows, pair):
    """The dict, by ascending letters, of the pairs of unlike states behind a pair; the lesser state stands first."""
    one = rows[pair[0]]
    other = rows[pair[1]]
    dead = len(rows) - 1
    found = {}
    for letter in sorted(set(list(one) + list(other))):
        states = sorted([one.get(letter, dead), other.get(letter, dead)])
        if states[0] != states[1]:
            found[letter] = tuple(states)
    return found


def state_tails(machine):
    """For any two states of a least machine the first word that leads to an end from just one of them."""
    rows, ends = table_of(machine)
    # One state more, from which nothing leads on, stands for no state at all.
    rows = rows + [{}]
    ends = ends + [False]
    pairs = [(state, other) for other in range(len(rows)) for state in range(other)]
    behind = {pair: pairs_behind(rows, pair) for pair in pairs}
    tails = {pair: () for pair in pairs if ends[pair[0]] != ends[pair[1]]}
    for _ in pairs:
        letters = {pair: first_key(behind[pair], tails) for pair in pairs if pair not in tails}
        words = [(pair, (key,) + tails[behind[pair][key]]) for pair, key in letters.items() if key is not None]
        if not words:
            break
        for pair, word in words:
            tails[pair] = word
    told = [pair for pair in sorted(tails) if pair[1] < machine.many]
    return tuple([(state, other, tails[(state, other)]) for state, other in told])


def fewest_paper(question, kinds):
    """The paper of the least machine: no single machine of the question has fewer states."""
    machine = least_machine(question, kinds)
    if not machine.ends:
        return (), (), ()
    return state_heads(machine), state_goes(machine), state_tails(machine)


def is_word_over(value, kinds):
    """Whether a value is a word over some kinds."""
    return isinstance(value, tuple) and all([is_letter_over(letter, kinds) for letter in value])


def is_letter_over(value, kinds):
    """Whether a value is a letter over some kinds."""
    return is_tuple_of(value, 2) and isinstance(value[0], str) and value[0] in kinds and is_way(value[1])


def are_words_over(value, kinds):
    """Whether a value is a tuple of words over some kinds."""
    return isinstance(value, tuple) and all([is_word_over(word, kinds) for word in value])


def are_tails_over(value, many, kinds):
    """Whether a value has for any two of so many numbers, in order, a triple of them and a word over some kinds."""
    pairs = [(state, other) for state in range(many) for other in range(state + 1, many)]
    if not is_tuple_of(value, len(pairs)):
        return False
    for triple, pair in zip(value, pairs):
        if not is_tuple_of(triple, 3) or not is_number(triple[0]) or not is_number(triple[1]):
            return False
        if triple[:2] != pair or not is_word_over(triple[2], kinds):
            return False
    return True


def is_paper_over(value, kinds):
    """Whether a value has the form of a paper over some kinds."""
    if not is_tuple_of(value, 3) or not are_words_over(value[0], kinds) or not are_words_over(value[1], kinds):
        return False
    return len(value[0]) == len(value[1]) and are_tails_over(value[2], len(value[0]), kinds)


def state_behind(table, state, word):
    """The state of a table behind a word from a state, or None."""
    for letter in word:
        if state is None:
            return None
        state = table[0][state].get(letter)
    return state


def check_fewest(question, kinds, value):
    """Whether a value is a right paper: so many states each single machine of the question has at least."""
    if not is_paper_over(value, kinds):
        return False
    heads, goes, tails = value
    table = table_of(least_machine(question, kinds))
    states = [state_behind(table, 0, head) for head in heads]
    if not all([is_end_in(table, state_behind(table, state, go)) for state, go in zip(states, goes)]):
        return False
    for one, other, word in tails:
        ends = [is_end_in(table, state_behind(table, state, word)) for state in (states[one], states[other])]
        if ends[0] == ends[1]:
            return False
    return True
