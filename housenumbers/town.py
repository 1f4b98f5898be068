"""The calls on one town, as a list of whole numbers, and what they answer."""

from housenumbers.building import add_street, begin, build_house, pull_house, rename_street
from housenumbers.mending import check_right, count_fewest, list_order, mend_side
from housenumbers.numbering import number_anew, plate_between, put_plate, take_plate
from housenumbers.records import Town
from housenumbers.refusals import NOT_BEGUN
from housenumbers.reshaping import cut_street, join_streets
from housenumbers.searching import find_closest, find_next, find_opposite, find_plate, measure_walk
from housenumbers.telling import count_houses, least_free, list_bare, list_streets, look_at, tell_state

BEGIN = 0
# How many whole numbers stand behind each call's own.
ARGUMENT_COUNTS = (0, 2, 2, 3, 1, 3, 1, 1, 1, 2, 1, 2, 2, 3, 1, 1, 2, 2, 2, 3, 1, 2, 0, 1, 1, 0)


def answers(calls):
    """Make the calls on a new town, one behind another; each answer with how many numbers it has."""
    town = Town()
    told = []
    place = 0
    while place < len(calls):
        behind = place + 1 + ARGUMENT_COUNTS[calls[place]]
        answer = answer_call(town, calls[place], calls[place + 1:behind])
        told.append(len(answer))
        told.extend(answer)
        place = behind
    return told


def answer_call(town, call, given):
    """What one call answers: a number, and what is told besides."""
    if call != BEGIN and not town.begun:
        return [NOT_BEGUN]
    return make_call(call_makers()[call], town, given)


def call_makers():
    """What carries out each call, at the call's number."""
    return (
        begin,
        add_street,
        rename_street,
        build_house,
        pull_house,
        put_plate,
        take_plate,
        number_anew,
        plate_between,
        list_order,
        check_right,
        count_fewest,
        mend_side,
        find_plate,
        find_opposite,
        find_next,
        find_closest,
        measure_walk,
        join_streets,
        cut_street,
        count_houses,
        least_free,
        list_streets,
        look_at,
        list_bare,
        tell_state,
    )


def make_call(maker, town, given):
    """Carry out a call with as many whole numbers as it has."""
    if len(given) == 0:
        return maker(town)
    if len(given) == 1:
        return maker(town, given[0])
    if len(given) == 2:
        return maker(town, given[0], given[1])
    return maker(town, given[0], given[1], given[2])
