"""Who is found by a plate, who is near, how far: find, opposite, next, closest, walk."""

from housenumbers.plates import is_plate
from housenumbers.records import find_house, find_street, houses_in_order, houses_of_street, number_of_named
from housenumbers.refusals import NO_SUCH, NONE_FOUND, NOT_ONE_STREET, OUT_OF_RANGE


def find_plate(town, n, x, letter):
    """find: the house of a street, by the street's name, that has a plate; its side and its metre."""
    s = number_of_named(town, n)
    if s is None:
        return [NO_SUCH]
    if not is_plate(x, letter):
        return [OUT_OF_RANGE]
    for house in houses_of_street(town, s):
        if house.plate == (x, letter):
            return [house.serial, house.side, house.metre]
    return [NONE_FOUND]


def find_opposite(town, h):
    """opposite: the nearest house of the other side, by how much their metres differ."""
    house = find_house(town, h)
    if house is None:
        return [NO_SUCH]
    across = houses_in_order(town, house.street, 1 - house.side)
    if len(across) == 0:
        return [NONE_FOUND]
    found = nearest(across, house.metre)
    return [found.serial, abs(found.metre - house.metre)]


def find_next(town, h):
    """next: the house behind this one on its side, by how much their metres differ."""
    house = find_house(town, h)
    if house is None:
        return [NO_SUCH]
    behind = [other for other in houses_in_order(town, house.street, house.side) if other.metre > house.metre]
    if len(behind) == 0:
        return [NONE_FOUND]
    return [behind[0].serial, behind[0].metre - house.metre]


def find_closest(town, s, m):
    """closest: the house of a street that is nearest to a metre, its side and how far."""
    street = find_street(town, s)
    if street is None:
        return [NO_SUCH]
    if m >= street.metres:
        return [OUT_OF_RANGE]
    there = houses_of_street(town, s)
    if len(there) == 0:
        return [NONE_FOUND]
    found = nearest(there, m)
    return [found.serial, found.side, abs(found.metre - m)]


def measure_walk(town, h, i):
    """walk: by how much the metres of two houses of one street differ."""
    house = find_house(town, h)
    other = find_house(town, i)
    if house is None or other is None:
        return [NO_SUCH]
    if house.street != other.street:
        return [NOT_ONE_STREET]
    return [abs(house.metre - other.metre)]


def nearest(houses, metre):
    """The nearest of these houses; of alike near ones the odd side's, then the one at the lesser metre."""
    return min(houses, key=lambda house: (abs(house.metre - metre), house.side, house.metre))
