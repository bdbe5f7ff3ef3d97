"""Whether amounts on the roads are the flow that rests, and if not, why not."""

from roadrest.flows import cheapest_costs, road_cost
from roadrest.ratios import minus, plus, ratio

RESTS = 0
ON_SHUT_ROAD = 1
NOT_EVEN = 2
NOT_CHEAPEST = 3


def first_shut(land, amounts):
    """The first shut road with something on it, or None."""
    for number, road in enumerate(land.roads):
        if road.shut == 1 and amounts[number][0] > 0:
            return number
    return None


def first_uneven(land, amounts):
    """The first place at which what comes less what leaves isn't as it must be, or None."""
    gains = [ratio(0, 1) for place in range(land.places)]
    for road, amount in zip(land.roads, amounts):
        gains[road.tail] = minus(gains[road.tail], amount)
        gains[road.head] = plus(gains[road.head], amount)
    wanted = [0] * land.places
    wanted[land.source] = -land.units
    wanted[land.goal] = land.units
    for place in range(land.places):
        if gains[place] != ratio(wanted[place], 1):
            return place
    return None


def first_dear(land, amounts):
    """The first road with something on it that's on no cheapest way from the source to its end, or None."""
    costs = cheapest_costs(land, amounts)
    for number, road in enumerate(land.roads):
        amount = amounts[number]
        if amount[0] == 0:
            continue
        if road.tail not in costs or plus(costs[road.tail], road_cost(road, amount)) != costs[road.head]:
            return number
    return None


def judgement(land, amounts):
    """What judge answers of amounts on the roads, which are fractions, 0 or more."""
    number = first_shut(land, amounts)
    if number is not None:
        return [ON_SHUT_ROAD, number]
    place = first_uneven(land, amounts)
    if place is not None:
        return [NOT_EVEN, place]
    number = first_dear(land, amounts)
    if number is not None:
        return [NOT_CHEAPEST, number]
    return [RESTS]
