"""The order of houses and plates, and how it is mended: order, right, fewest, mend."""

from housenumbers.plates import plate_at, plates_of_side, rank_of
from housenumbers.records import find_street, houses_in_order, plated_in_order, refused_side
from housenumbers.refusals import NO_SUCH


def list_order(town, s, d):
    """order: how many houses a side has, then these."""
    refusal = refused_side(town, s, d)
    if refusal != 0:
        return [refusal]
    there = houses_in_order(town, s, d)
    return [len(there)] + [house.serial for house in there]


def check_right(town, s):
    """right: 1, or 0 and the first house whose plate does not rise."""
    if find_street(town, s) is None:
        return [NO_SUCH]
    wrong = houses_not_rising(town, s, 0) + houses_not_rising(town, s, 1)
    if len(wrong) == 0:
        return [1]
    return [0, wrong[0]]


def houses_not_rising(town, s, d):
    """The houses of a side, in order, whose plate the one's before is not below."""
    plated = plated_in_order(town, s, d)
    return [house.serial for before, house in zip(plated, plated[1:]) if not before.plate < house.plate]


def count_fewest(town, s, d):
    """fewest: how many plates have to change, then the houses whose plate stays."""
    refusal = refused_side(town, s, d)
    if refusal != 0:
        return [refusal]
    plated = plated_in_order(town, s, d)
    staying = places_that_stay(plated, d)
    return [len(plated) - len(staying)] + [plated[place].serial for place in staying]


def mend_side(town, s, d):
    """mend: those that do not stay get the least plates that rise, how many these were."""
    refusal = refused_side(town, s, d)
    if refusal != 0:
        return [refusal]
    plated = plated_in_order(town, s, d)
    staying = places_that_stay(plated, d)
    rank = -1
    for place, house in enumerate(plated):
        if place in staying:
            rank = rank_of(house.plate)
        else:
            rank += 1
            house.plate = plate_at(d, rank)
    return [len(plated) - len(staying)]


def places_that_stay(plated, side):
    """The places, in order, of as many houses as can keep their plates; the earliest such choice."""
    # Of two houses that stay, the plates between must suffice for the houses between.
    # That is so just where rank less place does not fall from the one to the other.
    room = [rank_of(house.plate) - place for place, house in enumerate(plated)]
    # The houses before the first and behind the last one that stays need plates, too.
    most_room = plates_of_side(side) - len(plated)
    return earliest_longest(stays_from(room, most_room))


def stays_from(room, most_room):
    """For each place how many can stay from it on if it stays itself; 0 where it cannot."""
    lengths = [0] * len(room)
    for place in range(len(room) - 1, -1, -1):
        if 0 <= room[place] and room[place] <= most_room:
            further = [lengths[k] for k in range(place + 1, len(room)) if room[k] >= room[place]]
            lengths[place] = 1 + max(further, default=0)
    return lengths


def earliest_longest(lengths):
    """The places of the longest choice; of alike long ones the one that is earlier where they first differ."""
    places = []
    wanted = max(lengths, default=0)
    for place, length in enumerate(lengths):
        # This place always fits behind the one chosen last: with less room than that one,
        # it could be followed by the place that does fit, and its own length would be more.
        if wanted > 0 and length == wanted:
            places.append(place)
            wanted -= 1
    return places
