"""The calls that only ask, 7 to 20: each takes the land and the numbers handed in, and changes nothing."""

from roadrest.flows import best_flow, best_tolls, better_shut, cheapest_costs, cost_each, resting_flow, spent
from roadrest.judging import judgement
from roadrest.lands import are_units, with_units, without_road
from roadrest.ratios import divided, ratio
from roadrest.refusals import NO_WAY, NOT_THERE, WRONG_LIST, WRONG_NUMBER
from roadrest.ways import parts_of, way_cost, ways_in_order

MOST_JUDGED = 1000000000


def fractions_told(fractions):
    """The fractions as numbers, one behind another, without how many they are."""
    told = []
    for fraction in fractions:
        told.extend(list(fraction))
    return told


def list_told(numbers):
    """How many numbers there are, then these."""
    return [len(numbers)] + numbers


def cost_told(cost):
    """The cost as two numbers, or the refusal if there's none."""
    if cost is None:
        return [NO_WAY]
    return list(cost)


def tell_land(land, given):
    """Call 7, told."""
    told = [land.places, land.source, land.goal, land.units, len(land.roads)]
    for road in land.roads:
        told.extend([road.tail, road.head, road.base, road.slope, road.toll[0], road.toll[1], road.shut])
    return told


def tell_flow(land, given):
    """Call 8, flow."""
    flow = resting_flow(land)
    if flow is None:
        return [NO_WAY]
    return [len(flow)] + fractions_told(flow)


def tell_time(land, given):
    """Call 9, time."""
    flow = resting_flow(land)
    if flow is None:
        return [NO_WAY]
    costs = cheapest_costs(land, flow)
    return fractions_told([costs[land.goal], spent(land, flow)])


def tell_best(land, given):
    """Call 10, best."""
    flow = best_flow(land)
    if flow is None:
        return [NO_WAY]
    return [len(flow)] + fractions_told(flow + [spent(land, flow)])


def tell_price(land, given):
    """Call 11, price."""
    flow = resting_flow(land)
    if flow is None:
        return [NO_WAY]
    return list(divided(spent(land, flow), spent(land, best_flow(land))))


def tell_tolls(land, given):
    """Call 12, tolls."""
    best = best_flow(land)
    if best is None:
        return [NO_WAY]
    return [len(best)] + fractions_told(best_tolls(land, best))


def tell_cost(land, given):
    """Call 13, cost: place."""
    place = given[0]
    if place >= land.places:
        return [NOT_THERE]
    flow = resting_flow(land)
    if flow is None:
        return [NO_WAY]
    return cost_told(cheapest_costs(land, flow).get(place))


def tell_without(land, given):
    """Call 14, without: road."""
    if given[0] >= len(land.roads):
        return [NOT_THERE]
    return cost_told(cost_each(without_road(land, given[0])))


def tell_better(land, given):
    """Call 15, better."""
    cost = cost_each(land)
    if cost is None:
        return [NO_WAY]
    return list_told(better_shut(land, cost))


def tell_at(land, given):
    """Call 16, at: units."""
    if not are_units(given[0]):
        return [WRONG_NUMBER]
    return cost_told(cost_each(with_units(land, given[0])))


def tell_ways(land, given):
    """Call 17, ways."""
    return [len(ways_in_order(land))]


def tell_way(land, given):
    """Call 18, way: its number."""
    ways = ways_in_order(land)
    if given[0] >= len(ways):
        return [NOT_THERE]
    way = ways[given[0]]
    return list_told(way) + list(way_cost(land, resting_flow(land), way))


def tell_parts(land, given):
    """Call 19, parts."""
    flow = resting_flow(land)
    if flow is None:
        return [NO_WAY]
    parts = parts_of(land, flow)
    told = [len(parts)]
    for amount, way in parts:
        told.extend(list(amount) + list_told(way))
    return told


def tell_judgement(land, given):
    """Call 20, judge: the lower number of all, how many upper ones there are, these."""
    lower = given[0]
    uppers = given[2:]
    if not 1 <= lower <= MOST_JUDGED:
        return [WRONG_NUMBER]
    if len(uppers) != len(land.roads) or max(uppers, default=0) > MOST_JUDGED:
        return [WRONG_LIST]
    return judgement(land, [ratio(upper, lower) for upper in uppers])


ASKING = {
    7: tell_land,
    8: tell_flow,
    9: tell_time,
    10: tell_best,
    11: tell_price,
    12: tell_tolls,
    13: tell_cost,
    14: tell_without,
    15: tell_better,
    16: tell_at,
    17: tell_ways,
    18: tell_way,
    19: tell_parts,
    20: tell_judgement,
}


def asked(land, number, given):
    """What the call that only asks answers of the land."""
    return ASKING[number](land, given)
