"""What a land is: its places, its units and its roads."""

from roadrest.ratios import ratio

MOST_UNITS = 1000


class Road:
    """A road from tail to head; shut is 1 or 0, the toll a fraction."""

    def __init__(self, tail, head, base, slope):
        self.tail = tail
        self.head = head
        self.base = base
        self.slope = slope
        self.toll = ratio(0, 1)
        self.shut = 0


class Land:
    """Places numbered from 0, and how many units go from the source to the goal."""

    def __init__(self, places, source, goal, units):
        self.places = places
        self.source = source
        self.goal = goal
        self.units = units
        self.roads = []


def are_units(number):
    """Whether so many units may go."""
    return 1 <= number <= MOST_UNITS


def copied_road(road):
    """A road alike; this one stays as it is when the other is changed."""
    twin = Road(road.tail, road.head, road.base, road.slope)
    twin.toll = road.toll
    twin.shut = road.shut
    return twin


def copied_land(land):
    """A land alike, with roads of its own; this one stays as it is when the other is changed."""
    twin = Land(land.places, land.source, land.goal, land.units)
    twin.roads = [copied_road(road) for road in land.roads]
    return twin


def without_road(land, number):
    """The land as it would be, were the road shut."""
    twin = copied_land(land)
    road = twin.roads[number]
    road.shut = 1
    return twin


def with_units(land, units):
    """The land as it would be, were there so many units."""
    twin = copied_land(land)
    twin.units = units
    return twin
