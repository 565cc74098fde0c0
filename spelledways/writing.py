"""Machines written as questions: state by state is taken out, and what leads through it is put together."""

NOTHING = ("either", ())
EMPTY_WORD = ("empty",)
# The numbers of a begin and an end of their own: so all states between them can be taken out.
BEGIN = -1
END = -2


def either_of(one, other):
    """The question that spells what one of two spells."""
    unlike = []
    for question in (one, other):
        for part in question[1] if question[0] == "either" else (question,):
            if part not in unlike:
                unlike.append(part)
    return unlike[0] if len(unlike) == 1 else ("either", tuple(unlike))


def row_of(questions):
    """The question that spells what some spell, one behind the other."""
    parts = [part for question in questions for part in (question[1] if question[0] == "row" else (question,))]
    parts = [part for part in parts if part != EMPTY_WORD]
    if not parts:
        return EMPTY_WORD
    return parts[0] if len(parts) == 1 else ("row", tuple(parts))


class Leads:
    """Which questions lead from state to state; each is kept in a pair with the number of its letters."""

    def __init__(self, states, steps, starts, ends):
        self._states = states
        self._leads = {state: {} for state in states + [BEGIN, END]}
        for state in starts:
            self._put(BEGIN, state, EMPTY_WORD, 0)
        for state in ends:
            self._put(state, END, EMPTY_WORD, 0)
        for state, letter, behind in steps:
            self._put(state, behind, ("one",) + letter, 1)

    def told(self):
        """The pair of what leads from the begin to the end, and the number of its letters."""
        waiting = self._states
        while waiting:
            state = min([(self._cost(state), state) for state in waiting])[1]
            waiting = [other for other in waiting if other != state]
            self._take_out(state)
        return self._leads[BEGIN].get(END, (NOTHING, 0))

    def _put(self, state, behind, question, letters):
        row = self._leads[state]
        if behind in row:
            question = either_of(row[behind][0], question)
            letters = row[behind][1] + letters
        row[behind] = (question, letters)

    def _into(self, state):
        """The list of the other states that lead to a state."""
        return [ahead for ahead, row in self._leads.items() if ahead != state and state in row]

    def _cost(self, state):
        """How many letters more there are when a state is taken out."""
        into = [self._leads[ahead][state][1] for ahead in self._into(state)]
        row = self._leads[state]
        out = [row[behind][1] for behind in row if behind != state]
        here = row[state][1] if state in row else 0
        return sum(into) * (len(out) - 1) + sum(out) * (len(into) - 1) + here * (len(into) * len(out) - 1)

    def _take_out(self, state):
        row = self._leads.pop(state)
        here, many = row.get(state, (NOTHING, 0))
        rounds = EMPTY_WORD if here == NOTHING or here == EMPTY_WORD else ("star", here)
        for ahead in self._into(state):
            begin, letters = self._leads[ahead].pop(state)
            for behind in row:
                if behind != state:
                    end, more = row[behind]
                    self._put(ahead, behind, row_of((begin, rounds, end)), letters + many + more)


def question_of_parts(parts):
    """A question that spells just the words that lead by steps from a start to an end, and how many letters it has;
    the parts are states, steps, starts and ends."""
    states, steps, starts, ends = parts
    return Leads(states, steps, starts, ends).told()
