"""Walks by their price: the cheapest, and heights, which show that none is cheaper."""

from spelledways.counts import need_size
from spelledways.graphs import prices_of
from spelledways.moving import are_places
from spelledways.plain import is_number, is_tuple_of
from spelledways.search import Search


class Priced:
    """The moves between the places that are reached, each with its price, and where an ask begins and ends."""

    def __init__(self, graph, ask):
        search = Search(graph, ask)
        prices = prices_of(graph)
        self.starts = search.starts
        self.goals = search.goals
        self.moves = {}
        for place in search.field():
            moves = search.moves.from_place(place)
            self.moves[place] = [(step, other, prices[step[0]]) for step, other in moves]

    def ahead(self):
        """A dict that has for each place the list of pairs of a place from which a move leads there and its price."""
        found = {}
        for place in self.moves:
            for _, other, price in self.moves[place]:
                found.setdefault(other, []).append((place, price))
        return found

    def with_more(self, costs):
        """The least price of a way to a goal by one step more than that of `costs`, for each place that has one."""
        found = {}
        for place in self.moves:
            sums = [costs[other] + price for _, other, price in self.moves[place] if other in costs]
            if sums:
                found[place] = min(sums)
        return found


def least_costs(priced):
    """A dict of the least pair (price, steps) of a way from a place to a goal."""
    ahead = priced.ahead()
    costs = {goal: (0, 0) for goal in priced.goals}
    changed = list(costs)
    while changed:
        lower = {}
        for other in changed:
            price, steps = costs[other]
            for place, more in ahead.get(other, []):
                cost = (price + more, steps + 1)
                if place not in costs or cost < costs[place]:
                    costs[place] = cost
                    lower[place] = True
        changed = list(lower)
    return costs


def cheapest(graph, ask):
    """The least price of walks that answer an ask, and the first walk of this price; None if there is none."""
    priced = Priced(graph, ask)
    costs = least_costs(priced)
    starts = [(costs[start], start) for start in priced.starts if start in costs]
    if not starts:
        return None
    cost, place = min(starts)
    node = place[0]
    steps = ()
    while len(steps) < cost[1]:
        left = (costs[place][0], costs[place][1] - 1)
        step, place = [(told, other) for told, other, price in priced.moves[place]
                       if other in costs and (costs[other][0] + price, costs[other][1]) == left][0]
        steps = steps + (step,)
    return cost[0], (node, steps)


def cost_levels(priced, most):
    """For each number of steps up to the most a dict of the least price of ways of so many steps to a goal."""
    levels = [{goal: 0 for goal in priced.goals}]
    while len(levels) <= most:
        levels.append(priced.with_more(levels[-1]))
    return levels


def cheapest_within(graph, ask, steps):
    """As the cheapest, of the walks with at most so many steps."""
    need_size(steps, "steps")
    priced = Priced(graph, ask)
    levels = cost_levels(priced, steps)
    found = []
    for many, level in enumerate(levels):
        found.extend([(level[start], many, start) for start in priced.starts if start in level])
    if not found:
        return None
    price, many, place = min(found)
    node = place[0]
    walk = ()
    for level in levels[many - 1::-1] if many else []:
        left = levels[many - len(walk)][place]
        step, place = [(told, other) for told, other, more in priced.moves[place]
                       if other in level and level[other] + more == left][0]
        walk = walk + (step,)
    return price, (node, walk)


def trades(graph, ask):
    """The numbers of steps at which the least price of walks with at most so many falls, and these prices."""
    priced = Priced(graph, ask)
    found = []
    # A cheapest walk need not meet a place twice.
    for steps, level in enumerate(cost_levels(priced, len(priced.moves))):
        price = min([level[start] for start in priced.starts if start in level], default=None)
        if price is not None and (not found or price < found[-1][1]):
            found.append((steps, price))
    return tuple(found)


def heights_for(graph, ask):
    """The places that are reached, each with the least price of ways of moves that lead there."""
    priced = Priced(graph, ask)
    heights = {start: 0 for start in priced.starts}
    changed = list(heights)
    while changed:
        lower = {}
        for place in changed:
            for _, other, price in priced.moves[place]:
                if other not in heights or heights[place] + price < heights[other]:
                    heights[other] = heights[place] + price
                    lower[other] = True
        changed = list(lower)
    return tuple(sorted(heights.items()))


def are_heights(search, prices, heights):
    """Whether numbers by places begin with 0, and rise along each move by at most its price."""
    if any([heights.get(start) != 0 for start in search.starts]):
        return False
    for place in heights:
        for step, other in search.moves.from_place(place):
            if other not in heights or heights[other] > heights[place] + prices[step[0]]:
                return False
    return True


def check_heights(graph, ask, price, value):
    """Whether a value is heights in which no goal has a number below a price."""
    search = Search(graph, ask)
    if not isinstance(value, tuple) or not all([is_tuple_of(pair, 2) and is_number(pair[1]) for pair in value]):
        return False
    if not is_number(price) or not are_places(tuple([pair[0] for pair in value]), graph, search.machine):
        return False
    heights = {place: number for place, number in value}
    if not are_heights(search, prices_of(graph), heights):
        return False
    return all([heights.get(goal, price) >= price for goal in search.goals])
