"""Giving and taking plates: plate, unplate, anew, between."""

from housenumbers.plates import NO_PLATE, is_of_side, is_plate, least_number
from housenumbers.records import find_house, find_street, houses_in_order, plated_in_order
from housenumbers.refusals import NO_SUCH, NONE_FOUND, OUT_OF_RANGE, SO_ALREADY, WITHOUT_PLATE, WRONG_SIDE


def exchange_plate(house, plate):
    """Give a house another plate, or NO_PLATE; the answer tells the one that it had."""
    former = house.plate
    house.plate = plate
    return [0, former[0], former[1]]


def put_plate(town, h, n, letter):
    """plate: a house gets the plate that is told."""
    house = find_house(town, h)
    if house is None:
        return [NO_SUCH]
    if not is_plate(n, letter):
        return [OUT_OF_RANGE]
    if not is_of_side(n, house.side):
        return [WRONG_SIDE]
    if (n, letter) in [other.plate for other in houses_in_order(town, house.street, house.side)]:
        return [SO_ALREADY]
    return exchange_plate(house, (n, letter))


def take_plate(town, h):
    """unplate: a house has no plate any more."""
    house = find_house(town, h)
    if house is None:
        return [NO_SUCH]
    if house.plate == NO_PLATE:
        return [WITHOUT_PLATE]
    return exchange_plate(house, NO_PLATE)


def number_anew(town, s):
    """anew: plates without letters on both sides, how many houses' plates differ now."""
    if find_street(town, s) is None:
        return [NO_SUCH]
    return [number_side_anew(town, s, 0) + number_side_anew(town, s, 1)]


def number_side_anew(town, s, d):
    """Number one side from its least number on; how many plates differ now."""
    differing = 0
    for place, house in enumerate(houses_in_order(town, s, d)):
        plate = (least_number(d) + 2 * place, 0)
        if house.plate != plate:
            differing += 1
        house.plate = plate
    return differing


def plate_between(town, h):
    """between: a house without a plate gets one that fits between its neighbours'."""
    house = find_house(town, h)
    if house is None:
        return [NO_SUCH]
    if house.plate != NO_PLATE:
        return [SO_ALREADY]
    plated = plated_in_order(town, house.street, house.side)
    before = [other.plate for other in plated if other.metre < house.metre]
    behind = [other.plate for other in plated if other.metre > house.metre]
    for plate in plates_to_try(house.side, before):
        if is_plate(plate[0], plate[1]) and fits_ahead(plate, before, behind):
            house.plate = plate
            return [0, plate[0], plate[1]]
    return [NONE_FOUND]


def plates_to_try(side, before):
    """The plates that come into question behind those before, the better one first."""
    if len(before) == 0:
        return [(least_number(side), 0)]
    number = before[-1][0]
    letter = before[-1][1]
    return [(number + 2, 0), (number, letter + 1)]


def fits_ahead(plate, before, behind):
    """Whether a plate is below the nearest one behind it and nobody's on the side."""
    # The side's plates need not rise, so one farther off may have it on either hand.
    if plate in before or plate in behind:
        return False
    return len(behind) == 0 or plate < behind[0]
