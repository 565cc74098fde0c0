"""What a formula tells by itself of the nodes of a graph: pairs put together as words are."""

from spelledways.formulas import parts_of


def related(graph, question):
    """The pairs of nodes that a question tells, ascending."""
    table = relation_of(graph, question)
    return tuple([(node, other) for node in graph[0] for other in sorted(table[node])])


def relation_of(graph, question):
    """For each node a dict of True for those to which a question leads from it."""
    form = question[0]
    if form == "one" or form == "any":
        return letter_relation(graph, question)
    parts = [relation_of(graph, part) for part in parts_of(question)]
    if form == "either":
        return united([{node: {} for node in graph[0]}] + parts)
    stay = {node: {node: True} for node in graph[0]}
    if form == "empty" or form == "row":
        return in_a_row([stay] + parts)
    if form == "maybe":
        return united([stay] + parts)
    if form == "times":
        return repeated(stay, parts[0], question[2], question[3])
    rounds = starred(stay, parts[0])
    return rounds if form == "star" else in_a_row([parts[0], rounds])


def letter_relation(graph, question):
    """Where steps lead that "one" or "any" reads."""
    found = {node: {} for node in graph[0]}
    for line, _ in graph[1]:
        if question[0] == "any" or question[1] == line[1]:
            begin, end = (line[0], line[2]) if question[-1] == 1 else (line[2], line[0])
            found[begin][end] = True
    return found


def united(relations):
    """Where at least one of some relations leads, from each node."""
    return {node: {other: True for table in relations for other in table[node]} for node in relations[0]}


def in_a_row(relations):
    """Where some relations lead, one behind the other, from each node."""
    found = relations[0]
    for table in relations[1:]:
        found = {node: {other: True for middle in found[node] for other in table[middle]} for node in found}
    return found


def starred(stay, table):
    """Where a relation leads, any number of times."""
    found = {}
    wider = stay
    while found != wider:
        found = wider
        wider = united([found, in_a_row([found, table])])
    return found


def repeated(stay, table, low, high):
    """Where a relation leads, low to high times."""
    latest = in_a_row([stay] + [table] * low)
    found = latest
    for _ in range(high - low):
        latest = in_a_row([latest, table])
        found = united([found, latest])
    return found
