"""What the tests share: writing calls, reading answers, and a plain reckoning to hold them against."""

import random
from fractions import Fraction

from roadrest.office import answers

LAND, ROAD, CHANGE, TOLL, SHUT, DEMAND, TOLD, FLOW, TIME, BEST = range(1, 11)
PRICE, TOLLS, COST, WITHOUT, BETTER, AT, WAYS, WAY, PARTS, JUDGE = range(11, 21)

BRAESS = [
    (LAND, 4, 0, 3, 6),
    (ROAD, 0, 1, 0, 10),
    (ROAD, 0, 2, 50, 1),
    (ROAD, 1, 3, 50, 1),
    (ROAD, 2, 3, 0, 10),
    (ROAD, 1, 2, 10, 1),
]

# Two roads side by side: the second is gone only when more than ten units go.
TWO = [(LAND, 2, 0, 1, 20), (ROAD, 0, 1, 0, 1), (ROAD, 0, 1, 10, 1)]

# Two roads from 0 to 1, three on from 1 to 2, all alike.
BESIDE = [(LAND, 3, 0, 2, 6)] + [(ROAD, 0, 1, 0, 1)] * 2 + [(ROAD, 1, 2, 0, 1)] * 3

# A circle 0, 1, 2, 0, roads back from 2 to 1 and from the goal to 0.
CIRCLE = [
    (LAND, 4, 0, 3, 3), (ROAD, 0, 1, 0, 1), (ROAD, 1, 2, 0, 1), (ROAD, 2, 0, 0, 1), (ROAD, 2, 1, 0, 1),
    (ROAD, 1, 3, 5, 1), (ROAD, 3, 0, 0, 1),
]

# Lands in which no row of roads that aren't shut leads from the source to the goal.
WAYLESS = [
    [(LAND, 2, 0, 1, 5)],
    [(LAND, 6, 5, 0, 1000)],
    [(LAND, 4, 0, 3, 5), (ROAD, 0, 1, 1, 1), (ROAD, 2, 3, 1, 1)],
    [(LAND, 2, 0, 1, 5), (ROAD, 1, 0, 1, 1)],
    [(LAND, 2, 0, 1, 5), (ROAD, 0, 1, 1, 1), (SHUT, 0, 1)],
    BRAESS + [(SHUT, 0, 1), (SHUT, 3, 1), (SHUT, 1, 1)],
    [(LAND, 5, 0, 4, 5), (ROAD, 0, 1, 0, 1), (ROAD, 1, 2, 0, 1), (ROAD, 2, 0, 0, 1), (ROAD, 4, 2, 0, 1)],
]


def judge(numbers, lower):
    """The call judge of the numbers by the lower one."""
    return (JUDGE, lower, len(numbers)) + tuple(numbers)


def flat(calls):
    return [number for call in calls for number in call]


def split(numbers):
    """The answers, call by call."""
    told = []
    place = 0
    while place < len(numbers):
        end = place + 1 + numbers[place]
        told.append(numbers[place + 1:end])
        place = end
    assert place == len(numbers)
    return told


def run(calls):
    """What each of the calls answers on one new object."""
    numbers = answers(flat(calls))
    assert type(numbers) is list and all(type(number) is int for number in numbers)
    told = split(numbers)
    assert len(told) == len(calls)
    return told


def last(calls):
    return run(calls)[-1]


def fractions(numbers):
    """Pairs of numbers as fractions; each pair must be in lowest terms."""
    pairs = list(zip(numbers[::2], numbers[1::2]))
    assert 2 * len(pairs) == len(numbers)
    told = [Fraction(upper, lower) for upper, lower in pairs]
    assert [(one.numerator, one.denominator) for one in told] == pairs
    return told


def flow_of(calls):
    numbers = last(calls + [(FLOW,)])
    told = fractions(numbers[1:])
    assert numbers[0] == len(told)
    return told


def time_of(calls):
    """What it costs each, what all spend."""
    told = fractions(last(calls + [(TIME,)]))
    assert len(told) == 2
    return told


def best_of(calls):
    """The best flow, what all spend in it."""
    numbers = last(calls + [(BEST,)])
    told = fractions(numbers[1:])
    assert numbers[0] == len(told) - 1
    return told[:-1], told[-1]


def fraction_of(calls, call):
    """What the call answers, which must be one fraction."""
    told = fractions(last(calls + [call]))
    assert len(told) == 1
    return told[0]


def tolls_of(calls):
    numbers = last(calls + [(TOLLS,)])
    told = fractions(numbers[1:])
    assert numbers[0] == len(told)
    return told


def better_of(calls):
    numbers = last(calls + [(BETTER,)])
    assert numbers[0] == len(numbers) - 1
    return numbers[1:]


def way_of(calls, number):
    """The way's roads, what it costs."""
    numbers = last(calls + [(WAY, number)])
    assert len(numbers) == numbers[0] + 3
    return numbers[1:-2], fractions(numbers[-2:])[0]


def all_ways_of(calls):
    """The roads of each way, as ways and way tell them."""
    numbers = last(calls + [(WAYS,)])
    assert len(numbers) == 1
    return [way_of(calls, number)[0] for number in range(numbers[0])]


def parts_of(calls):
    """Pairs: how much, the way's roads."""
    numbers = last(calls + [(PARTS,)])
    found = []
    place = 1
    while place < len(numbers):
        end = place + 3 + numbers[place + 2]
        found.append((fractions(numbers[place:place + 2])[0], numbers[place + 3:end]))
        place = end
    assert place == len(numbers) and numbers[0] == len(found)
    return found


class Seen:
    """A land as told answers it, in fractions, with its own reckoning."""

    def __init__(self, calls):
        numbers = last(calls + [(TOLD,)])
        self.places, self.source, self.goal, self.units = numbers[:4]
        rows = [numbers[5 + 7 * k:12 + 7 * k] for k in range(numbers[4])]
        self.roads = [(u, v, a, b, Fraction(p, q), z) for u, v, a, b, p, q, z in rows]

    def spent(self, flow):
        return sum((x * (a + b * x) for x, (u, v, a, b, toll, z) in zip(flow, self.roads)), Fraction(0))

    def costs(self, flow):
        return [a + toll + b * x for x, (u, v, a, b, toll, z) in zip(flow, self.roads)]

    def marginals(self, flow):
        return [a + 2 * b * x for x, (u, v, a, b, toll, z) in zip(flow, self.roads)]

    def reach(self, costs):
        """The cheapest cost from the source to each place that can be come to."""
        found = {self.source: Fraction(0)}
        for step in range(self.places):
            for cost, (u, v, a, b, toll, z) in zip(costs, self.roads):
                if z == 0 and u in found and found[u] + cost < found.get(v, found[u] + cost + 1):
                    found[v] = found[u] + cost
        return found

    def adds_up(self, flow):
        if len(flow) != len(self.roads) or any(x < 0 for x in flow):
            return False
        gain = [Fraction(0)] * self.places
        for x, (u, v, a, b, toll, z) in zip(flow, self.roads):
            if z == 1 and x != 0:
                return False
            gain[u] -= x
            gain[v] += x
        wanted = [Fraction(0)] * self.places
        wanted[self.source] -= self.units
        wanted[self.goal] += self.units
        return gain == wanted

    def on_cheapest(self, flow, costs):
        """Whether no road with something on it lies off a cheapest way to its end."""
        found = self.reach(costs)
        return all(
            x == 0 or (u in found and found[u] + cost == found[v])
            for x, cost, (u, v, a, b, toll, z) in zip(flow, costs, self.roads)
        )

    def ways(self):
        """All ways, each as a list of road numbers."""
        found = []
        started = [([], [self.source])]
        while started:
            roads, passed = started.pop()
            if passed[-1] == self.goal:
                found.append(roads)
                continue
            for k, (u, v, a, b, toll, z) in enumerate(self.roads):
                if z == 0 and u == passed[-1] and v not in passed:
                    started.append((roads + [k], passed + [v]))
        return found

    def ordered_ways(self):
        """The ways by the first road that differs."""
        def digits(way):
            return "".join(str(k) for k in way)
        return sorted(self.ways(), key=digits)

    def parts(self, flow):
        """As the document tells it: the first way with something on each road, again and again."""
        left = list(flow)
        found = []
        while any(left):
            way = [way for way in self.ordered_ways() if all(left[k] > 0 for k in way)][0]
            amount = min(left[k] for k in way)
            found.append((amount, way))
            left = [x - amount if k in way else x for k, x in enumerate(left)]
        return found

    def judged(self, flow):
        """What judge must answer of the flow."""
        for k, (u, v, a, b, toll, z) in enumerate(self.roads):
            if z == 1 and flow[k] > 0:
                return [1, k]
        for place in range(self.places):
            comes = sum(x for x, road in zip(flow, self.roads) if road[1] == place)
            leaves = sum(x for x, road in zip(flow, self.roads) if road[0] == place)
            wanted = {self.source: -self.units, self.goal: self.units}.get(place, 0)
            if comes - leaves != wanted:
                return [2, place]
        costs = self.costs(flow)
        found = self.reach(costs)
        for k, (u, v, a, b, toll, z) in enumerate(self.roads):
            if flow[k] > 0 and (u not in found or found[u] + costs[k] > found[v]):
                return [3, k]
        return [0]

    def mixed(self, ways, weights):
        """The flow that shares the units among the ways by the weights."""
        flow = [Fraction(0)] * len(self.roads)
        for way, weight in zip(ways, weights):
            for k in way:
                flow[k] += Fraction(self.units * weight, sum(weights))
        return flow


def checked_flow(calls):
    """What flow answers, held against what it is to rest; there's only one that rests."""
    land = Seen(calls)
    flow = flow_of(calls)
    assert land.adds_up(flow) and land.on_cheapest(flow, land.costs(flow)), calls
    return flow


def checked_cost(calls):
    """What it costs each at rest, or None if there's no way."""
    land = Seen(calls)
    if not land.ways():
        return None
    return land.reach(land.costs(checked_flow(calls)))[land.goal]


def random_land(rng, tolls=True, bases=True):
    """The calls that make some land; some have no way."""
    places = rng.randint(2, 6)
    source, goal = rng.sample(range(places), 2)
    between = [v for v in range(places) if v not in (source, goal)]
    order = [source] + between + [goal]
    forward = rng.random() < 0.7
    calls = [(LAND, places, source, goal, rng.choice([1, 7, 1000, rng.randint(1, 1000)]))]
    top = rng.choice([4, 1000])
    for k in range(rng.choice([9, 9, 9, rng.randint(1, 9)])):
        first, second = rng.sample(range(places), 2)
        if forward:
            first, second = min(first, second), max(first, second)
        base = rng.choice([0, top, rng.randint(0, top)]) if bases else 0
        calls.append((ROAD, order[first], order[second], base, rng.choice([1, top, rng.randint(1, top)])))
        if tolls and rng.random() < 0.3:
            upper = rng.choice([0, 1, 1000000, rng.randint(0, 1000000)])
            calls.append((TOLL, k, upper, rng.choice([1, 1000000, rng.randint(1, 1000000)])))
        if rng.random() < 0.1:
            calls.append((SHUT, k, 1))
    return calls


def random_lands(seed, many, tolls=True, bases=True):
    """So many lands that have a way."""
    rng = random.Random(seed)
    found = []
    while len(found) < many:
        calls = random_land(rng, tolls, bases)
        if Seen(calls).ways():
            found.append(calls)
    return found
