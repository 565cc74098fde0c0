import random
import time

from spelledways.errors import InvalidSize
from spelledways.graphs import EMPTY
from spelledways.places import answers_ask, goals, machine_for, moves, starts
from spelledways.prices import cheapest, cheapest_within, check_heights, heights_for, trades
from spelledways.search import reached
from spelledways.waysof import walk_price
from tests.common import Case, odd_values
from tests.test_counts import FORWARD, many_places, rich_ask
from tests.test_places import A, AROUND, AXB, BXC, CYA, GRAPH, plain_answers
from tests.test_search import greatest_graph

MOST = 5
BACK = ("star", ("any", -1))


def priced_graph(rng, nodes=("a", "b", "c"), lines=5, prices=(0, 0, 1, 2, 3, 10 ** 6)):
    """A graph of few lines, some of them free."""
    found = {(rng.choice(nodes), rng.choice("xy"), rng.choice(nodes)): rng.choice(prices) for _ in range(rng.randint(0, lines))}
    return tuple(nodes), tuple(sorted(found.items()))


def first_of(graph, walks):
    """The pair of the least price, and the first walk of this price; None without walks."""
    told = [(walk_price(graph, walk), len(walk[1]), walk[0], walk[1]) for walk in walks]
    return (min(told)[0], (min(told)[2], min(told)[3])) if told else None


class CheapestTest(Case):
    def test_beside_a_plain_list_of_all_walks(self):
        rng = random.Random(391)
        seen = {True: 0, False: 0}
        for _ in range(250):
            graph = priced_graph(rng, lines=4)
            ask = rich_ask(rng, graph)
            walks = plain_answers(graph, ask, MOST)
            for steps in range(MOST + 1):
                here = [walk for walk in walks if len(walk[1]) <= steps]
                self.same(cheapest_within(graph, ask, steps), first_of(graph, here))
            told = cheapest(graph, ask)
            seen[told is None] += 1
            # A cheapest walk need not meet a place twice: what only longer walks tell is left to the heights.
            if many_places(graph, ask) <= MOST + 1:
                self.same(told, first_of(graph, walks))
            self.same(cheapest_within(graph, ask, 60), told)
            self.look_at_trades(graph, ask, walks, told)
        self.assertGreater(min(seen.values()), 40)

    def look_at_trades(self, graph, ask, walks, told):
        rows = trades(graph, ask)
        wanted = []
        for steps in range(MOST + 1):
            price = min([walk_price(graph, walk) for walk in walks if len(walk[1]) <= steps], default=None)
            if price is not None and (not wanted or price < wanted[-1][1]):
                wanted.append((steps, price))
        self.same([row for row in rows if row[0] <= MOST], wanted)
        self.assertLessEqual(len(rows), many_places(graph, ask))
        self.assertTrue(all(one[0] < two[0] and one[1] > two[1] for one, two in zip(rows, rows[1:])))
        self.assertIs(rows == (), told is None)
        if told is not None:
            self.same((rows[-1][1], rows[-1][0]), (told[0], len(told[1][1])))
            self.assertIs(answers_ask(graph, ask, told[1]), True)
            self.same(walk_price(graph, told[1]), told[0])
            for steps, price in rows:
                self.same(cheapest_within(graph, ask, steps)[0], price)
                self.assertTrue(steps == 0 or (cheapest_within(graph, ask, steps - 1) or (price + 1,))[0] > price)

    def test_examples(self):
        self.same(cheapest(graph=GRAPH, ask=("a", BACK, "c")), (0, ("a", ((CYA, -1),))))
        self.same(trades(graph=GRAPH, ask=("a", AROUND, "a")), ((3, 6),))
        self.same(cheapest_within(graph=GRAPH, ask=(None, AROUND, "a"), steps=2), (0, ("c", ((CYA, 1),))))
        self.same((cheapest(GRAPH, ("a", AROUND, "b")), trades(GRAPH, ("a", AROUND, "b")), cheapest_within(GRAPH, ("a", AROUND, "a"), 2)), (None, (), None))
        self.same((cheapest(GRAPH, (None, FORWARD, None)), trades(GRAPH, (None, FORWARD, None))), ((0, ("a", ())), ((0, 0),)))
        self.same((cheapest(EMPTY, (None, FORWARD, None)), trades(EMPTY, (None, FORWARD, None))), (None, ()))
        self.same((cheapest(GRAPH, ("q", FORWARD, None)), cheapest_within(GRAPH, (None, FORWARD, "q"), 60)), (None, None))

    def test_free_lines_and_two_cheapest(self):
        lines = {("a", "x", "b"): 0, ("b", "x", "c"): 0, ("a", "x", "c"): 0, ("a", "y", "c"): 0, ("b", "x", "b"): 0, ("c", "x", "d"): 10 ** 6}
        graph = (("a", "b", "c", "d"), tuple(sorted(lines.items())))
        # Of as many steps the least, of unlike numbers of steps the shortest, though longer ones are as cheap.
        self.same(cheapest(graph, ("a", ("some", ("any", 1)), "c")), (0, ("a", ((("a", "x", "c"), 1),))))
        self.same(cheapest(graph, ("a", ("row", (A, ("star", A))), "d")), (10 ** 6, ("a", ((("a", "x", "c"), 1), (("c", "x", "d"), 1)))))
        self.same(cheapest(graph, (None, ("some", ("any", 1)), "c")), (0, ("a", ((("a", "x", "c"), 1),))))
        self.same(cheapest(graph, (None, ("times", ("any", 1), 3, 3), None)), (0, ("a", ((("a", "x", "b"), 1), (("b", "x", "b"), 1), (("b", "x", "b"), 1)))))
        far = {("a", "x", "c"): 7, ("a", "x", "b"): 3, ("b", "x", "c"): 3, ("b", "x", "d"): 1, ("d", "x", "c"): 1}
        graph = (("a", "b", "c", "d"), tuple(sorted(far.items())))
        self.same(trades(graph, ("a", ("star", A), "c")), ((1, 7), (2, 6), (3, 5)))
        self.same([cheapest_within(graph, ("a", ("star", A), "c"), steps) for steps in (0, 1, 2)], [
            None, (7, ("a", ((("a", "x", "c"), 1),))), (6, ("a", ((("a", "x", "b"), 1), (("b", "x", "c"), 1))))])
        # A longer walk that is cheaper than the first one, but not than the last one told, is no trade.
        far[("b", "x", "d")] = 4
        graph = (("a", "b", "c", "d"), tuple(sorted(far.items())))
        self.same(trades(graph, ("a", ("star", A), "c")), ((1, 7), (2, 6)))
        far[("a", "x", "c")] = 70
        far[("d", "x", "c")] = 0
        graph = (("a", "b", "c", "d"), tuple(sorted(far.items())))
        self.same(trades(graph, ("a", ("star", A), "c")), ((1, 70), (2, 6)))
        nodes = tuple(sorted("n" + str(at) for at in range(12)))
        down = {(nodes[0], "x", nodes[at]): 100 - at for at in range(1, 12)}
        down.update({(nodes[at], "x", nodes[at + 1]): 0 for at in range(1, 11)})
        down.update({(nodes[at], "y", nodes[11]): 100 * (11 - at) for at in range(1, 11)})
        graph = (nodes, tuple(sorted(down.items())))
        self.same(trades(graph, (nodes[0], FORWARD, nodes[11])), ((1, 89),))

    def test_a_price_that_falls_at_each_further_step(self):
        lines = {}
        nodes = tuple("abcdefghijkl")
        for at in range(11):
            lines[(nodes[at], "x", nodes[at + 1])] = 1
            lines[(nodes[at], "y", "l")] = 1000 - 10 * at
        graph = (nodes, tuple(sorted(lines.items())))
        self.same(trades(graph, ("a", FORWARD, "l")), tuple((at + 1, 1000 - 9 * at) for at in range(10)) + ((11, 11),))
        twice = ("row", (("star", ("one", "x", 1)), ("one", "y", 1)))
        self.same(trades(graph, ("a", twice, "l"))[-1], (11, 910))
        # Around a ring with states: more steps than there are nodes.
        ring = (("a", "b"), ((("a", "x", "b"), 0), (("a", "y", "b"), 9), (("b", "x", "a"), 0)))
        question = ("row", (("times", ("row", (("any", 1), ("one", "x", 1))), 0, 3), ("any", 1)))
        self.same(trades(ring, ("a", question, "b")), ((1, 0),))

    def test_wrong_steps(self):
        for value in odd_values() + [61, "1", 3.0]:
            self.told(InvalidSize, "steps", cheapest_within, GRAPH, ("a", AROUND, "a"), value)
        self.same(cheapest_within(GRAPH, ("a", AROUND, "a"), 3)[0], 6)


class HeightsTest(Case):
    def plain_heights(self, graph, ask):
        """The least prices of ways to the places that are reached, lowered until nothing falls."""
        prices = dict(graph[1])
        found = {place: 0 for place in starts(graph, ask)}
        while True:
            ahead = dict(found)
            for place in ahead:
                for step, other in moves(graph, ask[1], place):
                    found[other] = min(found.get(other, 10 ** 12), ahead[place] + prices[step[0]])
            if ahead == found:
                return found

    def plain_check(self, graph, ask, price, heights):
        prices, numbers = dict(graph[1]), dict(heights)
        if any(numbers.get(place) != 0 for place in starts(graph, ask)):
            return False
        for place, number in heights:
            for step, other in moves(graph, ask[1], place):
                if other not in numbers or numbers[other] > number + prices[step[0]]:
                    return False
        return not any(numbers.get(place, price) < price for place in goals(graph, ask))

    def test_beside_plain_prices(self):
        rng = random.Random(392)
        seen = {True: 0, False: 0}
        for _ in range(150):
            graph = priced_graph(rng)
            ask = rich_ask(rng, graph)
            wanted = self.plain_heights(graph, ask)
            heights = heights_for(graph, ask)
            self.same(heights, tuple(sorted(wanted.items())))
            self.same(tuple(place for place, _ in heights), tuple(place for place, _ in reached(graph, ask)))
            told = cheapest(graph, ask)
            met = [wanted[goal] for goal in goals(graph, ask) if goal in wanted]
            self.same(told and told[0], min(met, default=None))
            prices = [0, 1, 10 ** 12] if told is None else [0, told[0], told[0] + 1]
            for price in prices:
                right = told is None or price <= told[0]
                self.assertIs(check_heights(graph, ask, price, heights), right)
                seen[right] += 1
                self.look_at_bent(rng, graph, ask, price, heights)
        self.assertGreater(min(seen.values()), 60)

    def look_at_bent(self, rng, graph, ask, price, heights):
        places = [(node, state) for node in graph[0] for state in range(machine_for(graph, ask[1]).many)]
        for _ in range(6):
            numbers = dict(heights)
            for _ in range(rng.randint(1, 2)):
                place = rng.choice(places)
                numbers[place] = max(0, numbers.get(place, 3) + rng.choice([-1, 1, 0, 5]))
                if rng.random() < 0.2:
                    numbers.pop(place)
            bent = tuple(sorted(numbers.items()))
            self.assertIs(check_heights(graph, ask, price, bent), self.plain_check(graph, ask, price, bent))

    def test_edges(self):
        ask = ("a", ("star", A), "c")
        heights = heights_for(graph=GRAPH, ask=ask)
        self.same(heights, ((("a", 0), 0), (("b", 0), 5), (("c", 0), 6)))
        self.assertIs(check_heights(graph=GRAPH, ask=ask, price=6, value=heights), True)
        self.assertIs(check_heights(GRAPH, ask, 7, heights), False)
        lower = ((("a", 0), 0), (("b", 0), 0), (("c", 0), 1))
        self.same((check_heights(GRAPH, ask, 1, lower), check_heights(GRAPH, ask, 2, lower)), (True, False))
        for value in (heights[:2], heights[1:], heights[:1] + heights[2:], heights + heights[2:], heights[:1] + heights, heights[::-1], list(heights),
                      heights[:2] + ((("c", 0), 7),), heights[:1] + ((("b", 0), 6), heights[2]), ((("a", 0), 1),) + heights[1:], (), heights[:2] + (heights[2] + (1,),),
                      heights[:2] + ([("c", 0), 6],), heights[:2] + ((["c", 0], 6),), heights + ((("q", 0), 3),), heights[:2] + ((("c", 1), 6),) + heights[2:],
                      ((("a", 0), False),) + heights[1:], ((("a", False), 0),) + heights[1:], heights[:2] + ((("c", 0), -1),), heights[:2] + ((("c", 0), None),)):
            self.assertIs(check_heights(GRAPH, ask, 0, value), False, value)
        # None is there without a walk: then there are heights for every price.
        shut = ("a", ("star", A), "q")
        self.assertIs(check_heights(GRAPH, shut, 10 ** 12, heights_for(GRAPH, shut)), True)
        self.assertIs(check_heights(GRAPH, ("q", A, None), 10 ** 12, ()), True)
        self.same((heights_for(EMPTY, (None, A, None)), check_heights(EMPTY, (None, A, None), 5, ())), ((), True))

    def test_any_value(self):
        ask = ("a", ("star", A), "c")
        heights = heights_for(GRAPH, ask)
        for value in odd_values():
            self.assertIs(check_heights(GRAPH, ask, 6, value), False)
            self.assertIs(check_heights(GRAPH, ask, 6, heights + (value,)), False)
            self.assertIs(check_heights(GRAPH, ask, 6, heights[:2] + ((value, 6),)), False)
            self.assertIs(check_heights(GRAPH, ask, 6, heights[:2] + ((("c", value), 6),)), False)
            if value != 10 ** 19:
                self.assertIs(check_heights(GRAPH, ask, 6, heights[:2] + ((("c", 0), value),)), False)

    def test_the_greatest_in_good_time(self):
        started = time.time()
        graph = greatest_graph()
        question = ("row", (("star", ("either", (("any", 1), ("any", -1)))), A, ("any", -1), ("any", 1), ("maybe", A)))
        for ask in ((None, question, None), ("n0", question, "n5"), ("n0", ("row", (("star", ("any", 1)), A) + (("any", 1),) * 4), None)):
            price, walk = cheapest(graph, ask)
            self.assertIs(answers_ask(graph, ask, walk), True)
            self.same((trades(graph, ask)[-1][1], cheapest_within(graph, ask, 60)), (price, (price, walk)))
            heights = heights_for(graph, ask)
            self.assertIs(check_heights(graph, ask, price, heights), True)
            self.assertIs(check_heights(graph, ask, price + 1, heights), False)
        self.assertLess(time.time() - started, 4)


class BothTest(Case):
    def test_lines_of_the_example(self):
        self.same(cheapest(GRAPH, ("a", FORWARD, "c")), (6, ("a", ((AXB, 1), (BXC, 1)))))
