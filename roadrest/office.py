"""The office: calls made one after the other on one object, and their answers."""

from roadrest.flows import best_flow, cheapest_costs, resting_flow, spent
from roadrest.lands import Land, Road
from roadrest.ratios import ratio

WRONG_NUMBER = -1
NOT_THERE = -2
NO_WAY = -4
FULL = -5
NO_LAND = -8

MOST_PLACES = 6
MOST_ROADS = 9
MOST_UNITS = 1000
MOST_BASE = 1000
MOST_SLOPE = 1000
MOST_OF_TOLL = 1000000

LAND_CALL = 1


class Office:
    """The object that calls are made on; its land is None till there's one."""

    def __init__(self):
        self.land = None


def are_units(number):
    """Whether so many units may go."""
    return 1 <= number <= MOST_UNITS


def are_base_and_slope(base, slope):
    """Whether a road may have this base and this slope."""
    return base <= MOST_BASE and 1 <= slope <= MOST_SLOPE


def fractions_told(fractions):
    """The fractions as numbers, one behind another, without how many they are."""
    told = []
    for fraction in fractions:
        told.extend(list(fraction))
    return told


def make_land(office, given):
    """Call 1, land: places, source, goal, units."""
    places = given[0]
    source = given[1]
    goal = given[2]
    units = given[3]
    if not 2 <= places <= MOST_PLACES or source >= places or goal >= places:
        return [WRONG_NUMBER]
    if source == goal or not are_units(units):
        return [WRONG_NUMBER]
    office.land = Land(places, source, goal, units)
    return [0]


def add_road(office, given):
    """Call 2, road: from, to, base, slope."""
    land = office.land
    tail = given[0]
    head = given[1]
    base = given[2]
    slope = given[3]
    if tail >= land.places or head >= land.places or tail == head:
        return [NOT_THERE]
    if not are_base_and_slope(base, slope):
        return [WRONG_NUMBER]
    if len(land.roads) >= MOST_ROADS:
        return [FULL]
    land.roads.append(Road(tail, head, base, slope))
    return [len(land.roads) - 1]


def change_road(office, given):
    """Call 3, change: road, base, slope."""
    land = office.land
    if given[0] >= len(land.roads):
        return [NOT_THERE]
    if not are_base_and_slope(given[1], given[2]):
        return [WRONG_NUMBER]
    road = land.roads[given[0]]
    road.base = given[1]
    road.slope = given[2]
    return [0]


def set_toll(office, given):
    """Call 4, toll: road, the toll's upper number, its lower one."""
    land = office.land
    upper = given[1]
    lower = given[2]
    if given[0] >= len(land.roads):
        return [NOT_THERE]
    if not 1 <= lower <= MOST_OF_TOLL or upper > MOST_OF_TOLL:
        return [WRONG_NUMBER]
    road = land.roads[given[0]]
    road.toll = ratio(upper, lower)
    return [0]


def set_shut(office, given):
    """Call 5, shut: road, 1 to shut it or 0 to let it be gone."""
    land = office.land
    if given[0] >= len(land.roads):
        return [NOT_THERE]
    if given[1] > 1:
        return [WRONG_NUMBER]
    road = land.roads[given[0]]
    road.shut = given[1]
    return [0]


def set_demand(office, given):
    """Call 6, demand: units."""
    land = office.land
    if not are_units(given[0]):
        return [WRONG_NUMBER]
    land.units = given[0]
    return [0]


def tell_land(office, given):
    """Call 7, told."""
    land = office.land
    told = [land.places, land.source, land.goal, land.units, len(land.roads)]
    for road in land.roads:
        told.extend([road.tail, road.head, road.base, road.slope, road.toll[0], road.toll[1], road.shut])
    return told


def tell_flow(office, given):
    """Call 8, flow."""
    flow = resting_flow(office.land)
    if flow is None:
        return [NO_WAY]
    return [len(flow)] + fractions_told(flow)


def tell_time(office, given):
    """Call 9, time."""
    land = office.land
    flow = resting_flow(land)
    if flow is None:
        return [NO_WAY]
    costs = cheapest_costs(land, flow)
    return fractions_told([costs[land.goal], spent(land, flow)])


def tell_best(office, given):
    """Call 10, best."""
    flow = best_flow(office.land)
    if flow is None:
        return [NO_WAY]
    return [len(flow)] + fractions_told(flow + [spent(office.land, flow)])


CALLS = {
    1: make_land,
    2: add_road,
    3: change_road,
    4: set_toll,
    5: set_shut,
    6: set_demand,
    7: tell_land,
    8: tell_flow,
    9: tell_time,
    10: tell_best,
}

# How many numbers are handed in with each call.
GIVEN = {1: 4, 2: 4, 3: 3, 4: 3, 5: 2, 6: 1, 7: 0, 8: 0, 9: 0, 10: 0}


def answer(office, number, given):
    """What one call on the office answers."""
    if number != LAND_CALL and office.land is None:
        return [NO_LAND]
    return CALLS[number](office, given)


def answers(calls):
    """What the calls answer, made one after the other on a new object: of each how many numbers, then these."""
    office = Office()
    told = []
    place = 0
    while place < len(calls):
        number = calls[place]
        end = place + 1 + GIVEN[number]
        numbers = answer(office, number, calls[place + 1:end])
        told.append(len(numbers))
        told.extend(numbers)
        place = end
    return told
