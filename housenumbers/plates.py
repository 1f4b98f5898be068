"""Plates: pairs of a number and a letter, which Python compares as the document does."""

NO_PLATE = (0, 0)
LAST_NUMBER = 999
LAST_LETTER = 26
# Without a letter counts as one way besides the letters.
PLATES_A_NUMBER = 27


def least_number(side):
    """The first number of a side: 1 on the odd one (0), 2 on the even one (1)."""
    return side + 1


def is_of_side(number, side):
    """Whether a number is odd on the odd side, even on the even one."""
    return number % 2 != side


def is_plate(number, letter):
    """Whether there are such a number and such a letter at all."""
    return 1 <= number and number <= LAST_NUMBER and letter <= LAST_LETTER


def plates_of_side(side):
    """How many different plates a side has."""
    numbers = (LAST_NUMBER - least_number(side)) // 2 + 1
    return numbers * PLATES_A_NUMBER


def rank_of(plate):
    """How many plates of its side are below this one."""
    return (plate[0] - 1) // 2 * PLATES_A_NUMBER + plate[1]


def plate_at(side, rank):
    """The plate of a side that has so many below it."""
    return (least_number(side) + rank // PLATES_A_NUMBER * 2, rank % PLATES_A_NUMBER)
