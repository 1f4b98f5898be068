"""What there is, told and left as it is: count, free, streets, look, bare, state."""

from housenumbers.plates import NO_PLATE, least_number
from housenumbers.records import find_house, find_street, houses_in_order, houses_of_street, refused_side
from housenumbers.refusals import NO_SUCH


def count_houses(town, s):
    """count: how many houses, on the odd side, on the even one, how many have plates."""
    if find_street(town, s) is None:
        return [NO_SUCH]
    there = houses_of_street(town, s)
    odd = [house for house in there if house.side == 0]
    plated = [house for house in there if house.plate != NO_PLATE]
    return [len(there), len(odd), len(there) - len(odd), len(plated)]


def least_free(town, s, d):
    """free: the least number of a side that no house of it has without a letter."""
    refusal = refused_side(town, s, d)
    if refusal != 0:
        return [refusal]
    given = [house.plate for house in houses_in_order(town, s, d)]
    number = least_number(d)
    # A side has more numbers than it may have houses, so one is free before the numbers end.
    while (number, 0) in given:
        number += 2
    return [number]


def list_streets(town):
    """streets: how many there are, then of all that there ever were the name and the metres."""
    there = 0
    told = []
    for street in town.streets:
        if street.gone:
            told.extend([0, 0])
        else:
            there += 1
            told.extend([street.name, street.metres])
    return [there] + told


def look_at(town, h):
    """look: a house's street, side, metre, its plate's number and letter."""
    house = find_house(town, h)
    if house is None:
        return [NO_SUCH]
    return [house.street, house.side, house.metre, house.plate[0], house.plate[1]]


def list_bare(town, s):
    """bare: how many houses of a street have no plate, then these."""
    if find_street(town, s) is None:
        return [NO_SUCH]
    without = [house.serial for house in houses_of_street(town, s) if house.plate == NO_PLATE]
    return [len(without)] + without


def tell_state(town):
    """state: how many streets there ever were, how many houses, how many houses there are."""
    standing = [house for house in town.houses if house.stands]
    return [len(town.streets), len(town.houses), len(standing)]
