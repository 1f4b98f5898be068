"""Streets and houses: begin, street, rename, house, pull."""

from housenumbers.records import House, Street, find_house, find_street, houses_in_order, is_name_used
from housenumbers.refusals import NO_SUCH, OUT_OF_RANGE, SO_ALREADY, TOO_MANY

MOST_STREETS = 6
MOST_HOUSES = 40
MOST_HOUSES_OF_SIDE = 10
LAST_NAME = 999
LEAST_METRES = 10
MOST_METRES = 2000


def is_name(n):
    """Whether a street may have that name."""
    return 1 <= n and n <= LAST_NAME


def begin(town):
    """Empty the town: what was there before a second begin is gone, its numbers too."""
    town.begun = True
    town.streets = []
    town.houses = []
    return [0]


def add_street(town, n, m):
    """street: one more street, its number."""
    if len(town.streets) == MOST_STREETS:
        return [TOO_MANY]
    if not is_name(n) or m < LEAST_METRES or m > MOST_METRES:
        return [OUT_OF_RANGE]
    if is_name_used(town, n):
        return [SO_ALREADY]
    town.streets.append(Street(n, m))
    return [len(town.streets) - 1]


def rename_street(town, s, n):
    """rename: another name for a street, the name that it had."""
    street = find_street(town, s)
    if street is None:
        return [NO_SUCH]
    if not is_name(n):
        return [OUT_OF_RANGE]
    if is_name_used(town, n):
        return [SO_ALREADY]
    former = street.name
    street.name = n
    return [former]


def build_house(town, s, d, m):
    """house: one more house without a plate, its number."""
    street = find_street(town, s)
    if street is None:
        return [NO_SUCH]
    if d > 1 or m >= street.metres:
        return [OUT_OF_RANGE]
    there = houses_in_order(town, s, d)
    if any([house.metre == m for house in there]):
        return [SO_ALREADY]
    if len(town.houses) == MOST_HOUSES or len(there) == MOST_HOUSES_OF_SIDE:
        return [TOO_MANY]
    serial = len(town.houses)
    town.houses.append(House(serial, s, d, m))
    return [serial]


def pull_house(town, h):
    """pull: a house is no more; the plate that it had."""
    house = find_house(town, h)
    if house is None:
        return [NO_SUCH]
    house.stands = False
    return [0, house.plate[0], house.plate[1]]
