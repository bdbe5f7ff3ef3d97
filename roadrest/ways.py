"""The ways of a land in their order, what they cost, and the parts of a flow."""

from roadrest.flows import road_cost
from roadrest.ratios import less, minus, plus, ratio


def passed_places(land, row):
    """The places that a row of roads from the source passes, the source first."""
    return [land.source] + [land.roads[number].head for number in row]


def next_roads(land, passed):
    """The roads, none of them shut, by which one may go on without passing a place twice."""
    numbers = []
    for number, road in enumerate(land.roads):
        if road.shut == 0 and road.tail == passed[-1] and road.head not in passed:
            numbers.append(number)
    return numbers


def ways_in_order(land):
    """All ways, each a list of road numbers."""
    found = []
    started = [[]]
    while started != []:
        row = started.pop()
        passed = passed_places(land, row)
        if passed[-1] == land.goal:
            found.append(row)
        else:
            started.extend([row + [number] for number in next_roads(land, passed)])
    # Lists are sorted by the first number that differs, and that's the order of ways.
    return sorted(found)


def way_cost(land, flow, way):
    """What the way costs in the flow."""
    total = ratio(0, 1)
    for number in way:
        total = plus(total, road_cost(land.roads[number], flow[number]))
    return total


def least_on(flow, way):
    """The least that's on one of the way's roads."""
    least = flow[way[0]]
    for number in way:
        if less(flow[number], least):
            least = flow[number]
    return least


def parts_of(land, flow):
    """The parts of the flow: pairs of an amount and a way."""
    parts = []
    left = list(flow)
    # A way that was passed over has an empty road, and that stays empty: one walk finds every part.
    for way in ways_in_order(land):
        amount = least_on(left, way)
        if amount[0] == 0:
            continue
        parts.append((amount, way))
        for number in way:
            left[number] = minus(left[number], amount)
    return parts
