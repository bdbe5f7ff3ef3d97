"""What a land is: its places, its units and its roads."""

from roadrest.ratios import ratio


class Road:
    """A road from tail to head; shut is 1 or 0, the toll a fraction."""

    def __init__(self, tail, head, base, slope):
        self.tail = tail
        self.head = head
        self.base = base
        self.slope = slope
        self.toll = ratio(0, 1)
        self.shut = 0


class Land:
    """Places numbered from 0, and how many units go from the source to the goal."""

    def __init__(self, places, source, goal, units):
        self.places = places
        self.source = source
        self.goal = goal
        self.units = units
        self.roads = []
