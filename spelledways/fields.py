"""Fields: the places that moves lead to, each with the fewest of them. Here a field is a dict of numbers by places."""


def field_of(moves, starts):
    """The field from some places."""
    numbers = {place: 0 for place in starts}
    waiting = list(numbers)
    while waiting:
        wider = []
        for place in waiting:
            for other in moves.behind(place):
                if other not in numbers:
                    numbers[other] = numbers[place] + 1
                    wider.append(other)
        waiting = wider
    return numbers


def leading_to(moves, goals):
    """A dict of True for each place from which moves lead to one of some places, and for these."""
    found = {place: True for place in goals}
    waiting = list(found)
    while waiting:
        place = waiting.pop()
        for other in moves.ahead(place):
            if other not in found:
                found[other] = True
                waiting.append(other)
    return found


def nearest(numbers, goals):
    """The least number of some places in a field, or None."""
    return min([numbers[place] for place in goals if place in numbers], default=None)


def on_shortest_ways(moves, numbers, ends):
    """A dict of True for each place of a field on some shortest way to some of its places, all with one number."""
    found = {place: True for place in ends}
    waiting = list(found)
    while waiting:
        place = waiting.pop()
        for other in moves.ahead(place):
            if other not in found and numbers.get(other) == numbers[place] - 1:
                found[other] = True
                waiting.append(other)
    return found


def first_walk(moves, numbers, goals):
    """The first walk, in order, from a beginning of a field to one of some places; None if there is none."""
    many = nearest(numbers, goals)
    if many is None:
        return None
    inside = on_shortest_ways(moves, numbers, [place for place in goals if numbers.get(place) == many])
    # The beginnings have one state: so the least of them is the one with the least node.
    place = min([place for place in inside if numbers[place] == 0])
    node = place[0]
    steps = ()
    for number in range(1, many + 1):
        step, place = [pair for pair in moves.from_place(place) if pair[1] in inside and numbers[pair[1]] == number][0]
        steps = steps + (step,)
    return node, steps


def unlike(places):
    """The list of some places, each once."""
    return list({place: True for place in places})


def lots_by_number(pairs):
    """A dict of the lists of places by their numbers."""
    lots = {}
    for place, number in pairs:
        lots.setdefault(number, []).append(place)
    return lots


def has_sure_way(numbers, moves, place, doubt):
    """Whether some move into a place comes from a place out of doubt with a number less by one."""
    number = numbers[place] - 1
    return any([other not in doubt and numbers.get(other) == number for other in moves.ahead(place)])


def doubt_in(numbers, moves, lost):
    """A dict, with their numbers, of the places of a field that are in doubt without some lines.

    `moves` are those without the lines; `lost` has the pairs of places ahead of and behind the moves along them."""
    ends = [behind for ahead, behind in lost if ahead in numbers and numbers.get(behind) == numbers[ahead] + 1]
    lots = lots_by_number([(place, numbers[place]) for place in ends])
    last = max(list(lots), default=0)
    found = {}
    further = []
    number = 1
    # A place with a number hangs only on those with a number less by one: so all of one number are told at once.
    while number <= last or further:
        asked = unlike(lots.get(number, []) + further)
        level = [place for place in asked if not has_sure_way(numbers, moves, place, found)]
        further = [other for place in level for other in moves.behind(place) if numbers[other] == number + 1]
        for place in level:
            found[place] = number
        number += 1
    return found


def mended_in(numbers, moves, doubt):
    """A dict, with their new numbers, of those places in doubt that are reached in another way."""
    pairs = []
    for place in doubt:
        sure = [numbers[other] for other in moves.ahead(place) if other in numbers and other not in doubt]
        pairs.extend([(place, number + 1) for number in sure])
    lots = lots_by_number(pairs)
    last = max(list(lots), default=0)
    found = {}
    further = []
    number = 1
    while number <= last or further:
        asked = unlike(lots.get(number, []) + further)
        level = [place for place in asked if place not in found]
        further = [other for place in level for other in moves.behind(place) if other in doubt]
        for place in level:
            found[place] = number
        number += 1
    return found


def nearer_in(numbers, moves, gained):
    """A dict, with their new numbers, of the places that are nearer with some lines more, or new.

    `moves` are those with the lines; `gained` has the pairs of places ahead of and behind the moves along them."""
    lots = lots_by_number([(behind, numbers[ahead] + 1) for ahead, behind in gained if ahead in numbers])
    last = max(list(lots), default=0)
    found = {}
    further = []
    number = 1
    while number <= last or further:
        asked = unlike(lots.get(number, []) + further)
        level = [place for place in asked if place not in found and numbers.get(place, number + 1) > number]
        further = [other for place in level for other in moves.behind(place)]
        for place in level:
            found[place] = number
        number += 1
    return found
