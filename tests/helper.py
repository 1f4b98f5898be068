"""Calls written by name for the tests, their answers one by one, and all that is seen behind them."""

from collections import namedtuple

from housenumbers.town import answers

NAMES = (
    "begin street rename house pull plate unplate anew between order right fewest mend find opposite next"
    " closest walk join cut count free streets look bare state"
).split()
NUMBERS = {name: number for number, name in enumerate(NAMES)}
ARGUMENTS = dict(zip(NAMES, (0, 2, 2, 3, 1, 3, 1, 1, 1, 2, 1, 2, 2, 3, 1, 1, 2, 2, 2, 3, 1, 2, 0, 1, 1, 0)))
# Those that tell and leave everything as it is.
TELLING = "order right fewest find opposite next closest walk count free streets look bare state".split()
# How long a list of calls may be, and how many houses there may ever be.
MOST_CALLS = 400
MOST_NUMBERS = 2000
MOST_HOUSES = 40
ODD = 0
EVEN = 1
MOST = 4294967295
# How many plates each side has: 27 (without a letter, and 26 letters) for each of its numbers.
SIDE_SIZE = (500 * 27, 499 * 27)


def written(calls):
    """The list of whole numbers that stands for calls such as ("street", 7, 100)."""
    flat = []
    for call in calls:
        if len(call) != 1 + ARGUMENTS[call[0]]:
            raise AssertionError(f"not a call: {call}")
        flat.append(NUMBERS[call[0]])
        flat.extend(call[1:])
    if len(calls) > MOST_CALLS or len(flat) > MOST_NUMBERS:
        raise AssertionError(f"such a list is never handed in: {len(calls)} calls, {len(flat)} numbers")
    return flat


def split(told):
    """The answers one by one, from the list in which each stands behind how many numbers it has."""
    found = []
    place = 0
    while place < len(told):
        behind = place + 1 + told[place]
        if told[place] < 1 or behind > len(told):
            raise AssertionError(f"the counts do not fit: {told}")
        found.append(told[place + 1:behind])
        place = behind
    return found


def run(calls):
    """Every answer to these calls, made on a new town."""
    found = split(answers(written(calls)))
    if len(found) != len(calls):
        raise AssertionError(f"{len(calls)} calls, {len(found)} answers")
    return found


def last(calls):
    """The answer to the last one of these calls."""
    return run(calls)[-1]


def tail(calls, further):
    """The answers to the further calls, made behind the first ones."""
    return run(calls + further)[len(calls):]


def one_street(metres=2000):
    """A begun town with one street, number 0, of the name 1."""
    return [("begin",), ("street", 1, metres)]


def side_with(plates, side=ODD, first=0, street=0):
    """A street's side with houses that, by their metres, have these plates (None: without one).

    The houses are numbered from first on, in order.
    """
    calls = []
    for place, plate in enumerate(plates):
        calls.append(("house", street, side, 10 * place + 5))
        if plate is not None:
            calls.append(("plate", first + place, plate[0], plate[1]))
    return calls


def plates_after(calls, houses):
    """The plates that these houses have behind these calls, told as they are pulled down."""
    told = tail(calls, [("pull", house) for house in houses])
    return [tuple(answer[1:]) if answer[0] == 0 else None for answer in told]


# streets: of each that there ever was (name, metres); ever: how many houses there ever were;
# houses: of each that there is (street, side, metre, plate's number, letter).
View = namedtuple("View", "streets ever houses")


def seen(calls):
    """All that streets, state and a look at every house tell behind these calls."""
    told = tail(calls, [("streets",), ("state",)] + [("look", house) for house in range(MOST_HOUSES)])
    streets = list(zip(told[0][1::2], told[0][2::2]))
    houses = {house: tuple(answer) for house, answer in enumerate(told[2:]) if answer != [-2]}
    there = len([1 for name, metres in streets if name != 0])
    if told[0][0] != there or told[1] != [len(streets), told[1][1], len(houses)]:
        raise AssertionError(f"streets, state and look do not agree: {told}")
    return View(streets, told[1][1], houses)


def rank(plate):
    """How many plates of its side are below this one, counted from the document's words."""
    number, letter = plate
    return len(range(2 - number % 2, number, 2)) * 27 + letter


def plate_of_rank(side, place):
    """The plate of a side that has so many below it."""
    return (side + 1 + 2 * (place // 27), place % 27)
