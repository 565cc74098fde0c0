"""Few states for the words that a least machine accepts: those whose words, which may come behind them, are not put
together of the words behind others. From these one state may be left for several at once."""

from spelledways.singles import behind_mask, bits_in, leads_of, mask_of, united_masks


def met_lots(steps, starts):
    """The list of the masks of the lots of states in which one can be at once who goes by these steps."""
    leads = leads_of(steps)
    lots = [mask_of(starts)]
    met = {lots[0]: True}
    at = 0
    while at < len(lots):
        states = bits_in(lots[at])
        for row in leads.values():
            mask = behind_mask(row, states)
            if mask not in met:
                met[mask] = True
                lots.append(mask)
        at += 1
    return lots


def words_behind(machine):
    """For each state of a machine a mask, which tells of which kinds the words are that lead from it to an end.

    Words are of one kind if they lead to ends from the same states: these are the lots met on the way back."""
    back = [(behind, letter, state) for state, letter, behind in machine.steps]
    lots = met_lots(back, machine.ends)
    return [mask_of([at for at, lot in enumerate(lots) if lot >> state & 1]) for state in range(machine.many)]


def needed_states(masks):
    """The states whose words are not just those of others that have no further words."""
    found = []
    for state, mask in enumerate(masks):
        if united_masks([other for other in masks if other != mask and other & mask == other]) != mask:
            found.append(state)
    return found


def parts_of_state(masks, needed, state):
    """Needed states with just the words of a state, together; itself if it is needed."""
    if state in needed:
        return [state]
    inside = [other for other in needed if masks[other] & masks[state] == masks[other]]
    found = inside
    # The less a state has, the sooner it can be spared.
    for _, other in sorted([(len(bits_in(masks[other])), other) for other in inside]):
        rest = [one for one in found if one != other]
        if united_masks([masks[one] for one in rest]) == masks[state]:
            found = rest
    return found


def few_states(machine):
    """Of a least machine: the states that are needed, and steps, starts and ends with which they accept its words."""
    masks = words_behind(machine)
    needed = needed_states(masks)
    parts = [parts_of_state(masks, needed, state) for state in range(machine.many)]
    steps = []
    for state, letter, behind in machine.steps:
        if state in needed:
            steps.extend([(state, letter, part) for part in parts[behind]])
    return needed, steps, parts[machine.start], [state for state in machine.ends if state in needed]
