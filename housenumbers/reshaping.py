"""Two streets made one, one made two: join, cut."""

from housenumbers.building import MOST_HOUSES_OF_SIDE, MOST_METRES, MOST_STREETS, is_name
from housenumbers.plates import NO_PLATE
from housenumbers.records import Street, find_street, houses_in_order, houses_of_street, is_name_used, plated_in_order
from housenumbers.refusals import NO_SUCH, OUT_OF_RANGE, SO_ALREADY, TOO_MANY


def join_streets(town, s, t):
    """join: the street t becomes the end of s; how many metres s has, how many plates went."""
    street = find_street(town, s)
    joined = find_street(town, t)
    if street is None or joined is None:
        return [NO_SUCH]
    if s == t:
        return [OUT_OF_RANGE]
    metres = street.metres + joined.metres
    if metres > MOST_METRES or is_side_too_full(town, s, t, 0) or is_side_too_full(town, s, t, 1):
        return [TOO_MANY]
    went = hand_over_side(town, s, t, 0) + hand_over_side(town, s, t, 1)
    street.metres = metres
    joined.gone = True
    return [metres, went]


def is_side_too_full(town, s, t, d):
    """Whether two streets have more houses on one side than one street may have."""
    return len(houses_in_order(town, s, d)) + len(houses_in_order(town, t, d)) > MOST_HOUSES_OF_SIDE


def hand_over_side(town, s, t, d):
    """Put the houses of a side of t behind the metres of s; how many lose a plate that s has already."""
    # The houses of t have no plate twice among themselves: only those of s count.
    taken = [house.plate for house in plated_in_order(town, s, d)]
    went = 0
    for house in houses_in_order(town, t, d):
        house.street = s
        house.metre += town.streets[s].metres
        if house.plate in taken:
            house.plate = NO_PLATE
            went += 1
    return went


def cut_street(town, s, m, n):
    """cut: what lies from a metre on becomes a street of its own; its number, how many metres it has."""
    street = find_street(town, s)
    if street is None:
        return [NO_SUCH]
    if m == 0 or m >= street.metres or not is_name(n):
        return [OUT_OF_RANGE]
    if is_name_used(town, n):
        return [SO_ALREADY]
    if len(town.streets) == MOST_STREETS:
        return [TOO_MANY]
    serial = len(town.streets)
    metres = street.metres - m
    town.streets.append(Street(n, metres))
    street.metres = m
    for house in houses_of_street(town, s):
        if house.metre >= m:
            house.street = serial
            house.metre -= m
    return [serial, metres]
