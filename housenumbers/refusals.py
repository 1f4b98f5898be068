"""The numbers that a refused call answers."""

NO_SUCH = -2
WITHOUT_PLATE = -6
NOT_BEGUN = -11
NOT_ONE_STREET = -16
SO_ALREADY = -17
OUT_OF_RANGE = -22
TOO_MANY = -28
NONE_FOUND = -33
WRONG_SIDE = -71
