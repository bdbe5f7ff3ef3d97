"""The office: calls made one after the other on one object, and their answers."""

from roadrest.asking import asked
from roadrest.lands import Land, Road, are_units
from roadrest.ratios import ratio
from roadrest.refusals import FULL, NO_LAND, NOT_THERE, WRONG_NUMBER

MOST_PLACES = 6
MOST_ROADS = 9
MOST_BASE = 1000
MOST_SLOPE = 1000
MOST_OF_TOLL = 1000000

LAND_CALL = 1
JUDGE_CALL = 20


class Office:
    """The object that calls are made on; its land is None till there's one."""

    def __init__(self):
        self.land = None


def are_base_and_slope(base, slope):
    """Whether a road may have this base and this slope."""
    return base <= MOST_BASE and 1 <= slope <= MOST_SLOPE


def make_land(office, given):
    """Call 1, land: places, source, goal, units."""
    places = given[0]
    source = given[1]
    goal = given[2]
    units = given[3]
    if not 2 <= places <= MOST_PLACES or source >= places or goal >= places:
        return [WRONG_NUMBER]
    if source == goal or not are_units(units):
        return [WRONG_NUMBER]
    office.land = Land(places, source, goal, units)
    return [0]


def add_road(office, given):
    """Call 2, road: from, to, base, slope."""
    land = office.land
    tail = given[0]
    head = given[1]
    base = given[2]
    slope = given[3]
    if tail >= land.places or head >= land.places or tail == head:
        return [NOT_THERE]
    if not are_base_and_slope(base, slope):
        return [WRONG_NUMBER]
    if len(land.roads) >= MOST_ROADS:
        return [FULL]
    land.roads.append(Road(tail, head, base, slope))
    return [len(land.roads) - 1]


def change_road(office, given):
    """Call 3, change: road, base, slope."""
    land = office.land
    if given[0] >= len(land.roads):
        return [NOT_THERE]
    if not are_base_and_slope(given[1], given[2]):
        return [WRONG_NUMBER]
    road = land.roads[given[0]]
    road.base = given[1]
    road.slope = given[2]
    return [0]


def set_toll(office, given):
    """Call 4, toll: road, the toll's upper number, its lower one."""
    land = office.land
    upper = given[1]
    lower = given[2]
    if given[0] >= len(land.roads):
        return [NOT_THERE]
    if not 1 <= lower <= MOST_OF_TOLL or upper > MOST_OF_TOLL:
        return [WRONG_NUMBER]
    road = land.roads[given[0]]
    road.toll = ratio(upper, lower)
    return [0]


def set_shut(office, given):
    """Call 5, shut: road, 1 to shut it or 0 to let it be gone."""
    land = office.land
    if given[0] >= len(land.roads):
        return [NOT_THERE]
    if given[1] > 1:
        return [WRONG_NUMBER]
    road = land.roads[given[0]]
    road.shut = given[1]
    return [0]


def set_demand(office, given):
    """Call 6, demand: units."""
    land = office.land
    if not are_units(given[0]):
        return [WRONG_NUMBER]
    land.units = given[0]
    return [0]


CHANGING = {
    1: make_land,
    2: add_road,
    3: change_road,
    4: set_toll,
    5: set_shut,
    6: set_demand,
}

# How many numbers are handed in with each call; of judge those before its list.
GIVEN = {
    1: 4, 2: 4, 3: 3, 4: 3, 5: 2, 6: 1, 7: 0, 8: 0, 9: 0, 10: 0,
    11: 0, 12: 0, 13: 1, 14: 1, 15: 0, 16: 1, 17: 0, 18: 1, 19: 0, 20: 2,
}


def answer(office, number, given):
    """What one call on the office answers."""
    if number != LAND_CALL and office.land is None:
        return [NO_LAND]
    if number in CHANGING:
        return CHANGING[number](office, given)
    return asked(office.land, number, given)


def call_end(calls, place):
    """The place behind the call that begins at the place."""
    number = calls[place]
    end = place + 1 + GIVEN[number]
    if number == JUDGE_CALL:
        # The last number before the list is how many the list has.
        end += calls[end - 1]
    return end


def answers(calls):
    """What the calls answer, made one after the other on a new object: of each how many numbers, then these."""
    office = Office()
    told = []
    place = 0
    while place < len(calls):
        end = call_end(calls, place)
        numbers = answer(office, calls[place], calls[place + 1:end])
        told.append(len(numbers))
        told.extend(numbers)
        place = end
    return told
