"""What a town holds, and how it is looked up."""

from housenumbers.plates import NO_PLATE
from housenumbers.refusals import NO_SUCH, OUT_OF_RANGE


class Town:
    """All streets and houses that there ever were, each at its own number."""

    def __init__(self):
        self.begun = False
        self.streets = []
        self.houses = []


class Street:
    """A street; once joined to another one it keeps its place in the town's list but is gone."""

    def __init__(self, name, metres):
        self.name = name
        self.metres = metres
        self.gone = False


class House:
    """A house; once pulled down it keeps its place in the town's list but stands no more."""

    def __init__(self, serial, street, side, metre):
        self.serial = serial
        self.street = street
        self.side = side
        self.metre = metre
        self.plate = NO_PLATE
        self.stands = True


def find_street(town, s):
    """The street of that number if it is still one, or None."""
    if s < len(town.streets) and not town.streets[s].gone:
        return town.streets[s]
    return None


def find_house(town, h):
    """The house of that number if it still stands, or None."""
    if h < len(town.houses) and town.houses[h].stands:
        return town.houses[h]
    return None


def number_of_named(town, n):
    """The number of the street that has that name now, or None; a name given up is nobody's."""
    for s, street in enumerate(town.streets):
        if street.name == n and not street.gone:
            return s
    return None


def is_name_used(town, n):
    """Whether a street has that name now; a name given up is free again."""
    return number_of_named(town, n) is not None


def houses_in_order(town, s, d):
    """The houses that stand on one side of a street, by their metres."""
    there = [house for house in town.houses if house.stands and house.street == s and house.side == d]
    return sorted(there, key=lambda house: house.metre)


def houses_of_street(town, s):
    """The houses that stand on a street: those of the odd side, in order, then those of the even one."""
    return houses_in_order(town, s, 0) + houses_in_order(town, s, 1)


def plated_in_order(town, s, d):
    """Those of a side's houses that have a plate, by their metres."""
    return [house for house in houses_in_order(town, s, d) if house.plate != NO_PLATE]


def refused_side(town, s, d):
    """The refusal that a street and a side are due, or 0."""
    if find_street(town, s) is None:
        return NO_SUCH
    if d > 1:
        return OUT_OF_RANGE
    return 0
