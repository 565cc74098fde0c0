"""Questions compared by the words that they spell, and their words counted."""

from spelledways.errors import InvalidSize
from spelledways.formulas import turned_question, wide_kinds
from spelledways.least import least, least_machine, machine_apart, machine_but, state_goes, turned_machine
from spelledways.machines import as_tuples
from spelledways.moving import rows_of
from spelledways.plain import is_number
from spelledways.residuals import few_states
from spelledways.tallies import Ways, totals_of
from spelledways.writing import question_of_parts

MOST_LETTERS = 40
FEW_STATES = 6


def first_accepted(machine):
    """The first word that a least machine accepts, or None."""
    return state_goes(machine)[machine.start] if machine.ends else None


def first_word(question, kinds):
    """The first word over some kinds that a question spells, or None."""
    return first_accepted(least_machine(question, kinds))


def missing_word(one, other, kinds):
    """The first word over some kinds that the one question spells and the other does not, or None."""
    return first_accepted(machine_but(least_machine(one, kinds), least_machine(other, kinds)))


def parting_word(one, other, kinds):
    """The first word over some kinds that just one of two questions spells, or None."""
    return first_accepted(machine_apart(least_machine(one, kinds), least_machine(other, kinds)))


def same_words(one, other, kinds):
    """Whether two questions spell the same words over some kinds."""
    return least_machine(one, kinds) == least_machine(other, kinds)


def always_same(one, other):
    """Whether two questions spell the same words over all kinds."""
    return same_words(one, other, wide_kinds(one, other))


def machine_moves(machine):
    """For each state of a machine the list of the pairs of a letter and the state to which it leads."""
    return {state: list(row.items()) for state, row in enumerate(rows_of(machine))}


def words_of(question, kinds):
    """The ways of letters to the ends of a question's least machine, and its start."""
    machine = least_machine(question, kinds)
    return Ways(machine_moves(machine), machine.ends), machine.start


def need_length(value):
    """Raise InvalidSize("length") unless a value is an integer from 0 to 40."""
    if not is_number(value) or value > MOST_LETTERS:
        raise InvalidSize("length")


def count_words(question, kinds, length):
    """The number of words of so many letters over some kinds that a question spells."""
    need_length(length)
    ways, start = words_of(question, kinds)
    return ways.many_from(start, length)


def word_at(question, kinds, length, number):
    """The word with a number, of those of so many letters over some kinds that a question spells, ascending."""
    need_length(length)
    ways, start = words_of(question, kinds)
    if not is_number(number) or number >= ways.many_from(start, length):
        raise InvalidSize("number")
    return ways.labels_at(start, length, number)


def total_words(question, kinds):
    """The number of all words over some kinds that a question spells; None if they are endless."""
    machine = least_machine(question, kinds)
    # Each state of a least machine is met and leads to an end: so a round anywhere makes the words endless.
    totals = totals_of(machine_moves(machine), machine.ends)
    return totals.get(machine.start)


def question_of(machine):
    """Some question that spells just the words that a machine accepts."""
    question, letters = question_of_parts(few_states(least(machine)))
    found = [(letters, 0, question)]
    # There may be far fewer letters when the words are read from their end, or when a small machine is left as it is.
    question, letters = question_of_parts(few_states(turned_machine(machine)))
    found.append((letters, 1, turned_question(question)))
    if machine.many <= FEW_STATES:
        states = list(range(machine.many))
        question, letters = question_of_parts((states, as_tuples(machine.steps), [machine.start], machine.ends))
        found.append((letters, 2, question))
    return min(found)[2]
