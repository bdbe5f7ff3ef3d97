"""The flows of a land: which one rests, which one is best, and what they cost."""

from roadrest.ratios import common_multiple, less, plus, ratio, times
from roadrest.rest import Link, Net, rest


def rest_at(land, costs, slopes):
    """The flow that rests where road k with x on it costs costs[k] + slopes[k] x, or None if there's no way."""
    scale = 1
    for cost in costs:
        scale = common_multiple(scale, cost[1])
    numbers = [number for number, road in enumerate(land.roads) if road.shut == 0]
    links = []
    for number in numbers:
        road = land.roads[number]
        cost = costs[number]
        links.append(Link(road.tail, road.head, cost[0] * (scale // cost[1]), slopes[number]))
    # Costs and units times the same scale: the load is so many times the flow.
    load = rest(Net(land.places, land.source, land.goal, land.units * scale, links))
    if load is None:
        return None
    flow = [ratio(0, 1) for road in land.roads]
    for number, amount in zip(numbers, load.amounts):
        flow[number] = ratio(amount, load.whole * scale)
    return flow


def resting_flow(land):
    """What's on each road in the flow that rests, or None if there's no way."""
    costs = [plus(ratio(road.base, 1), road.toll) for road in land.roads]
    return rest_at(land, costs, [road.slope for road in land.roads])


def best_flow(land):
    """What's on each road in the flow that spends least, or None if there's no way."""
    # One unit more on a road makes all spend base + 2 slope x more: at best all rest by that cost.
    costs = [ratio(road.base, 1) for road in land.roads]
    return rest_at(land, costs, [2 * road.slope for road in land.roads])


def untolled_cost(road, amount):
    """What the road costs each unit with the amount on it, its toll aside."""
    return plus(ratio(road.base, 1), times(ratio(road.slope, 1), amount))


def spent(land, flow):
    """What all together spend in the flow."""
    total = ratio(0, 1)
    for road, amount in zip(land.roads, flow):
        total = plus(total, times(amount, untolled_cost(road, amount)))
    return total


def cheapest_costs(land, flow):
    """Of each place that can be come to: what it costs to come there cheapest in the flow."""
    costs = {land.source: ratio(0, 1)}
    changed = True
    while changed:
        changed = False
        for road, amount in zip(land.roads, flow):
            if road.shut == 1 or road.tail not in costs:
                continue
            reach = plus(costs[road.tail], plus(untolled_cost(road, amount), road.toll))
            if road.head not in costs or less(reach, costs[road.head]):
                costs[road.head] = reach
                changed = True
    return costs
