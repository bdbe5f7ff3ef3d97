"""The flows of a land: which one rests, which one is best, and what they cost."""

from roadrest.lands import without_road
from roadrest.ratios import common_multiple, less, plus, ratio, times
from roadrest.rest import Link, Net, rest


def rest_at(land, costs, slopes):
    """The flow that rests where road k with x on it costs costs[k] + slopes[k] x, or None if there's no way."""
    scale = 1
    for cost in costs:
        scale = common_multiple(scale, cost[1])
    numbers = [number for number, road in enumerate(land.roads) if road.shut == 0]
    links = []
    for number in numbers:
        road = land.roads[number]
        cost = costs[number]
        links.append(Link(road.tail, road.head, cost[0] * (scale // cost[1]), slopes[number]))
    # Costs and units times the same scale: the load is so many times the flow.
    load = rest(Net(land.places, land.source, land.goal, land.units * scale, links))
    if load is None:
        return None
    flow = [ratio(0, 1) for road in land.roads]
    for number, amount in zip(numbers, load.amounts):
        flow[number] = ratio(amount, load.whole * scale)
    return flow


def resting_flow(land):
    """What's on each road in the flow that rests, or None if there's no way."""
    costs = [plus(ratio(road.base, 1), road.toll) for road in land.roads]
    return rest_at(land, costs, [road.slope for road in land.roads])


def best_flow(land):
    """What's on each road in the flow that spends least, or None if there's no way."""
    # One unit more on a road makes all spend base + 2 slope x more: at best all rest by that cost.
    costs = [ratio(road.base, 1) for road in land.roads]
    return rest_at(land, costs, [2 * road.slope for road in land.roads])


def untolled_cost(road, amount):
    """What the road costs each unit with the amount on it, its toll aside."""
    return plus(ratio(road.base, 1), times(ratio(road.slope, 1), amount))


def road_cost(road, amount):
    """What the road costs each unit with the amount on it."""
    return plus(untolled_cost(road, amount), road.toll)


def spent(land, flow):
    """What all together spend in the flow."""
    total = ratio(0, 1)
    for road, amount in zip(land.roads, flow):
        total = plus(total, times(amount, untolled_cost(road, amount)))
    return total


def cheapest_costs(land, flow):
    """Of each place that can be come to: what it costs to come there cheapest in the flow."""
    costs = {land.source: ratio(0, 1)}
    changed = True
    while changed:
        changed = False
        for road, amount in zip(land.roads, flow):
            if road.shut == 1 or road.tail not in costs:
                continue
            reach = plus(costs[road.tail], road_cost(road, amount))
            if road.head not in costs or less(reach, costs[road.head]):
                costs[road.head] = reach
                changed = True
    return costs


def cost_each(land):
    """What it costs each to come to the goal in the flow that rests, or None if there's no way."""
    flow = resting_flow(land)
    if flow is None:
        return None
    return cheapest_costs(land, flow)[land.goal]


def best_tolls(land, best):
    """Of each road the toll with which all rest in the best flow of themselves."""
    # That's what one unit more makes those dearer who are on the road already.
    return [times(ratio(road.slope, 1), amount) for road, amount in zip(land.roads, best)]


def better_shut(land, cost):
    """The roads that, each shut alone, would make it cost each less than the cost."""
    numbers = []
    for number in range(len(land.roads)):
        other = cost_each(without_road(land, number))
        if other is not None and less(other, cost):
            numbers.append(number)
    return numbers
