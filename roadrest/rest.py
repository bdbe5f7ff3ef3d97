"""Where the units on a net of links come to rest, in whole numbers.

At rest the sum over all links of y cost + slope y y / 2 is least. That sum is brought down
step by step: the links that carry something are balanced among themselves, then a cheaper
detour is taken in, till there's none. Each balance lowers the sum, so no set of links comes
twice and the steps end.
"""

from roadrest.linear import cleared
from roadrest.ratios import common_divisor, common_multiple


class Link:
    """With y on it, it costs cost + slope y to go from tail to head."""

    def __init__(self, tail, head, cost, slope):
        self.tail = tail
        self.head = head
        self.cost = cost
        self.slope = slope


class Net:
    """Links between places, and how many units go from the source to the goal."""

    def __init__(self, places, source, goal, units, links):
        self.places = places
        self.source = source
        self.goal = goal
        self.units = units
        self.links = links


class Load:
    """What's on each link: its amount by the whole, which is above 0."""

    def __init__(self, amounts, whole):
        divisor = whole
        for amount in amounts:
            divisor = common_divisor(divisor, abs(amount))
        self.amounts = [amount // divisor for amount in amounts]
        self.whole = whole // divisor

    def carrying(self):
        """The numbers of the links with something on them."""
        return [number for number, amount in enumerate(self.amounts) if amount > 0]


def traced(net, arrivals, place):
    """The links by which the place was come to, back to a place without an arrival, last one first."""
    numbers = []
    while place in arrivals:
        numbers.append(arrivals[place])
        place = net.links[arrivals[place]].tail
    return numbers


def some_way(net):
    """The numbers of links that lead from the source to the goal, or an empty list."""
    arrivals = {}
    reached = [net.source]
    for step in range(net.places):
        for number, link in enumerate(net.links):
            if link.tail in reached and link.head not in reached:
                reached.append(link.head)
                arrivals[link.head] = number
    return traced(net, arrivals, net.goal)


def grounded(rows, source):
    """The rows with the source's unknown, and each that no row speaks of, set to 0.

    Without that the equations would not tell from where costs are counted.
    """
    answer = []
    for number, row in enumerate(rows):
        if number == source or row[number] == 0:
            answer.append([1 if place == number else 0 for place in range(len(row))])
        else:
            answer.append([0 if place == source else entry for place, entry in enumerate(row)])
    return answer


def balance_rows(net, used, spread):
    """For each place: what comes less what leaves is as it must be, times the spread.

    The unknowns are the costs to come to the places; spread is a multiple of all slopes used.
    """
    last = net.places
    rows = [[0] * (last + 1) for place in range(last)]
    for number in used:
        link = net.links[number]
        weight = spread // link.slope
        rows[link.tail][link.tail] += weight
        rows[link.head][link.head] += weight
        rows[link.tail][link.head] -= weight
        rows[link.head][link.tail] -= weight
        rows[link.tail][last] -= weight * link.cost
        rows[link.head][last] += weight * link.cost
    rows[net.goal][last] += spread * net.units
    return grounded(rows, net.source)


def balanced(net, used):
    """The load on the used links alone at which all rows of them cost the same; it may be below 0."""
    spread = 1
    for number in used:
        spread = common_multiple(spread, net.links[number].slope)
    rows = cleared(balance_rows(net, used, spread))
    lower = rows[0][0]
    amounts = [0] * len(net.links)
    for number in used:
        link = net.links[number]
        climb = rows[link.head][net.places] - rows[link.tail][net.places] - link.cost * lower
        amounts[number] = climb * (spread // link.slope)
    return Load(amounts, spread * lower)


def first_emptied(load, target):
    """The number of the link that is empty first as the load moves towards the target."""
    chosen = -1
    for number, wanted in enumerate(target.amounts):
        if wanted >= 0:
            continue
        if chosen < 0 or load.amounts[number] * target.amounts[chosen] > load.amounts[chosen] * wanted:
            chosen = number
    return chosen


def moved(load, target):
    """The load moved towards the target till a link is empty."""
    number = first_emptied(load, target)
    held = load.amounts[number]
    wanted = target.amounts[number]
    amounts = [there * held - here * wanted for here, there in zip(load.amounts, target.amounts)]
    return Load(amounts, held * target.whole - wanted * load.whole)


def settled(net, load, used):
    """The load balanced on those of the used links that keep something on them."""
    target = balanced(net, used)
    while min(target.amounts) < 0:
        load = moved(load, target)
        target = balanced(net, load.carrying())
    return target


def carried_heights(net, load):
    """Of each place that a balanced load goes through: what it costs to come to it, times the whole."""
    heights = {net.source: 0}
    for step in range(net.places):
        for number in load.carrying():
            link = net.links[number]
            if link.tail in heights and link.head not in heights:
                heights[link.head] = heights[link.tail] + link.cost * load.whole + link.slope * load.amounts[number]
    return heights


def spread_heights(net, whole, heights, arrivals):
    """The heights with those of the places that nothing goes through; arrivals takes the links to these."""
    labels = dict(heights)
    changed = True
    while changed:
        changed = False
        for number, link in enumerate(net.links):
            if link.tail not in labels or link.head in heights:
                continue
            reach = labels[link.tail] + link.cost * whole
            if link.head not in labels or reach < labels[link.head]:
                labels[link.head] = reach
                arrivals[link.head] = number
                changed = True
    return labels


def cheaper_detour(net, load):
    """Empty links, one behind another, that lead cheaper between two places the load goes through, or none.

    Between the two the detour passes only places that nothing goes through. So one amount is on all
    of it, and that grows from 0 as it's balanced with the rest: no step stands still.
    """
    heights = carried_heights(net, load)
    arrivals = {}
    labels = spread_heights(net, load.whole, heights, arrivals)
    for number, link in enumerate(net.links):
        if load.amounts[number] > 0 or link.tail not in labels or link.head not in heights:
            continue
        if labels[link.tail] + link.cost * load.whole < heights[link.head]:
            return [number] + traced(net, arrivals, link.tail)
    return []


def rest(net):
    """The load that rests, or None if no links lead from the source to the goal."""
    way = some_way(net)
    if way == []:
        return None
    load = balanced(net, way)
    detour = cheaper_detour(net, load)
    while detour != []:
        load = settled(net, load, load.carrying() + detour)
        detour = cheaper_detour(net, load)
    return load
