"""Single machines as tables: for each state a dict of the next states by letters, ascending, and whether it is an end.

State 0 is the start. A table is a pair of a list of such dicts and a list of such truth values."""

from spelledways.formulas import letters_over
from spelledways.machines import Machine, as_tuples


def bits_in(mask):
    """The list of the places of the bits of a number, ascending."""
    return [at for at in range(mask.bit_length()) if mask >> at & 1]


def mask_of(states):
    """The number with just the bits of some states."""
    mask = 0
    for state in states:
        mask = mask | 1 << state
    return mask


def united_masks(masks):
    """The number with the bits of some masks."""
    found = 0
    for mask in masks:
        found = found | mask
    return found


def leads_of(steps):
    """For each letter a dict that has for each state the mask of those to which the letter leads."""
    leads = {}
    for state, letter, behind in steps:
        row = leads.setdefault(letter, {})
        row[state] = row.get(state, 0) | 1 << behind
    return leads


def behind_mask(row, states):
    """The mask of the states to which a letter with this row of leads goes from some states."""
    mask = 0
    for state in states:
        mask = mask | row.get(state, 0)
    return mask


def single_table(steps, starts, ends):
    """The table of the lots of states in which a machine with these steps, starts and ends can be at once."""
    leads = leads_of(steps)
    letters = sorted(leads)
    masks = [mask_of(starts)]
    numbers = {masks[0]: 0}
    rows = []
    while len(rows) < len(masks):
        states = bits_in(masks[len(rows)])
        row = {}
        for letter in letters:
            mask = behind_mask(leads[letter], states)
            if mask and mask not in numbers:
                numbers[mask] = len(masks)
                masks.append(mask)
            if mask:
                row[letter] = numbers[mask]
        rows.append(row)
    last = mask_of(ends)
    return rows, [mask & last != 0 for mask in masks]


def table_of(machine):
    """The table of a single machine that accepts the same words."""
    steps = [(state, as_tuples(letter), behind) for state, letter, behind in machine.steps]
    return single_table(steps, [machine.start], machine.ends)


def turned_table(machine):
    """The table of a single machine that accepts the turned words."""
    steps = [(behind, (letter[0], -letter[1]), state) for state, letter, behind in machine.steps]
    return single_table(steps, machine.ends, [machine.start])


def states_to_ends(rows, ends):
    """A dict of True for each state from which an end can be reached."""
    into = {}
    for state, row in enumerate(rows):
        for behind in row.values():
            into.setdefault(behind, []).append(state)
    found = {state: True for state in range(len(rows)) if ends[state]}
    waiting = list(found)
    while waiting:
        behind = waiting.pop()
        for state in into.get(behind, []):
            if state not in found:
                found[state] = True
                waiting.append(state)
    return found


def alike_states(rows, ends):
    """For each state the number of its lot: two are in one lot if the same words lead from them to ends."""
    lots = [1 if is_end else 0 for is_end in ends]
    many = len(set(lots))
    while True:
        numbers = {}
        behind = [tuple([(letter, lots[row[letter]]) for letter in row]) for row in rows]
        signs = list(zip(lots, behind))
        for sign in signs:
            numbers.setdefault(sign, len(numbers))
        if len(numbers) == many:
            return lots
        lots = [numbers[sign] for sign in signs]
        many = len(numbers)


def numbered(rows, lots):
    """The lots in the order in which they are met from the start, each as one of its states."""
    met = [0]
    numbers = {lots[0]: 0}
    at = 0
    while at < len(met):
        row = rows[met[at]]
        for behind in row.values():
            if lots[behind] not in numbers:
                numbers[lots[behind]] = len(met)
                met.append(behind)
        at += 1
    return met, numbers


def least_of_table(kinds, table):
    """The least machine, over some kinds, of a single machine's table."""
    rows, ends = table
    going = states_to_ends(rows, ends)
    if 0 not in going:
        return Machine(tuple(kinds), 1, (), 0, ())
    # What leads to no end is left out first: so states are alike if they have the same letters to alike states.
    rows = [{letter: row[letter] for letter in row if row[letter] in going} for row in rows]
    lots = alike_states(rows, ends)
    met, numbers = numbered(rows, lots)
    last_ones = tuple([at for at, state in enumerate(met) if ends[state]])
    steps = []
    for at, state in enumerate(met):
        steps.extend([(at, letter, numbers[lots[behind]]) for letter, behind in rows[state].items()])
    return Machine(tuple(kinds), len(met), tuple(steps), 0, last_ones)


def behind_pair(one, other, letter):
    """The pair of states behind a letter in two rows, each None where there is no such state."""
    return one.get(letter), other.get(letter)


def paired_table(kinds, one, other, wanted):
    """The table of two tables read at once; `wanted` has the pairs of truth values, end or not, that make an end."""
    pairs = [(0, 0)]
    numbers = {(0, 0): 0}
    rows = []
    letters = letters_over(kinds)
    while len(rows) < len(pairs):
        first, second = pairs[len(rows)]
        row_of_one = {} if first is None else one[0][first]
        row_of_other = {} if second is None else other[0][second]
        row = {}
        for letter in letters:
            pair = behind_pair(row_of_one, row_of_other, letter)
            if pair != (None, None):
                if pair not in numbers:
                    numbers[pair] = len(pairs)
                    pairs.append(pair)
                row[letter] = numbers[pair]
        rows.append(row)
    ends = [(is_end_in(one, pair[0]), is_end_in(other, pair[1])) in wanted for pair in pairs]
    return rows, ends


def is_end_in(table, state):
    """Whether a state of a table, or None, is an end."""
    return state is not None and table[1][state]
