"""f: what's refused changes nothing, of every call and each of its refusals; and the largest arguments."""

import unittest

from tests.helper import ARGUMENTS, MOST, NAMES, last, run, seen, side_with

# Street 0 has houses with plates and without, 1 has a house and the metres of 3, which is none any more,
# 2 has no houses; houses 3 and 5 are pulled down; the name 5 was a street's.
SOME = [("begin",), ("street", 5, 100), ("street", 2, 50), ("street", 3, 1990), ("street", 4, 10), ("rename", 0, 1)]
SOME += side_with([(1, 0), None, (1, 1), (3, 0)]) + side_with([(1, 0), (3, 0)], 0, 4, 1)
SOME += [("pull", 3), ("pull", 5), ("join", 1, 3)]
SIX = [("begin",)] + [("street", name, 100) for name in range(1, 7)]
FULL = [("begin",), ("street", 1, 50), ("street", 2, 50), ("street", 3, 50)]
FULL += [("house", street, side, metre) for street in (0, 1) for side in (0, 1) for metre in range(10)]

REFUSED = {
    "street": [
        (SIX, (7, 100), -28), (SIX, (0, 9), -28), (SIX, (1, 100), -28), (SOME, (0, 100), -22), (SOME, (1000, 100), -22),
        (SOME, (9, 9), -22), (SOME, (9, 2001), -22), (SOME, (1, 9), -22), (SOME, (1, 100), -17),
    ],
    "rename": [
        (SOME, (3, 9), -2), (SOME, (4, 0), -2), (SOME, (3, 1), -2), (SOME, (0, 0), -22), (SOME, (0, 1000), -22),
        (SOME, (0, 2), -17), (SOME, (0, 1), -17),
    ],
    "house": [
        (SOME, (3, 0, 5), -2), (FULL, (3, 2, 50), -2), (SOME, (0, 2, 5), -22), (SOME, (0, 0, 100), -22),
        (FULL, (0, 2, 5), -22), (FULL, (2, 0, 50), -22), (SOME, (0, 0, 5), -17), (FULL, (0, 0, 5), -17),
        (FULL, (2, 0, 5), -28), (FULL, (0, 0, 20), -28), (FULL[:14], (0, 0, 20), -28),
    ],
    "pull": [(SOME, (3,), -2), (SOME, (6,), -2)],
    "plate": [
        (SOME, (3, 5, 0), -2), (SOME, (6, 0, 27), -2), (SOME, (0, 0, 0), -22), (SOME, (0, 1000, 0), -22),
        (SOME, (0, 1, 27), -22), (SOME, (0, 2, 27), -22), (SOME, (0, 2, 0), -71), (SOME, (1, 1, 0), -17),
        (SOME, (0, 1, 0), -17),
    ],
    "unplate": [(SOME, (3,), -2), (SOME, (6,), -2), (SOME, (1,), -6)],
    "anew": [(SOME, (3,), -2), (SOME, (4,), -2)],
    "between": [(SOME, (3,), -2), (SOME, (0,), -17), (SOME, (1,), -33)],
    "order": [(SOME, (3, 0), -2), (SOME, (4, 2), -2), (SOME, (0, 2), -22)],
    "right": [(SOME, (3,), -2), (SOME, (4,), -2)],
    "fewest": [(SOME, (3, 0), -2), (SOME, (4, 2), -2), (SOME, (0, 2), -22)],
    "mend": [(SOME, (3, 0), -2), (SOME, (4, 2), -2), (SOME, (0, 2), -22)],
    "find": [
        (SOME, (4, 1, 0), -2), (SOME, (5, 1, 0), -2), (SOME, (0, 0, 0), -2), (SOME, (5, 1000, 27), -2),
        (SOME, (1, 0, 0), -22), (SOME, (1, 1000, 0), -22), (SOME, (1, 1, 27), -22), (SOME, (3, 0, 27), -22),
        (SOME, (1, 2, 0), -33), (SOME, (1, 3, 0), -33), (SOME, (3, 1, 0), -33),
    ],
    "opposite": [(SOME, (3,), -2), (SOME, (6,), -2), (SOME, (0,), -33)],
    "next": [(SOME, (3,), -2), (SOME, (6,), -2), (SOME, (2,), -33), (SOME, (4,), -33)],
    "closest": [
        (SOME, (3, 5), -2), (SOME, (4, 5000), -2), (SOME, (0, 100), -22), (SOME, (2, 1990), -22), (SOME, (2, 1989), -33),
    ],
    "walk": [
        (SOME, (3, 0), -2), (SOME, (0, 3), -2), (SOME, (3, 3), -2), (SOME, (5, 0), -2), (SOME, (0, 5), -2),
        (SOME, (0, 4), -16), (SOME, (4, 0), -16),
    ],
    "join": [
        (SOME, (3, 0), -2), (SOME, (0, 3), -2), (SOME, (3, 3), -2), (SOME, (2, 4), -2), (SOME, (0, 0), -22),
        (SOME, (2, 2), -22), (FULL, (0, 0), -22), (SOME, (0, 2), -28), (SOME, (2, 0), -28), (FULL, (0, 1), -28),
    ],
    "cut": [
        (SOME, (3, 5, 9), -2), (SIX, (6, 0, 1), -2), (SOME, (0, 0, 9), -22), (SOME, (0, 100, 9), -22),
        (SOME, (0, 50, 0), -22), (SOME, (0, 50, 1000), -22), (SIX, (0, 0, 1), -22), (SIX, (0, 50, 1000), -22),
        (SOME, (0, 50, 2), -17), (SOME, (0, 50, 1), -17), (SIX, (0, 50, 1), -17), (SIX, (0, 50, 9), -28),
    ],
    "count": [(SOME, (3,), -2), (SOME, (4,), -2)],
    "free": [(SOME, (3, 0), -2), (SOME, (4, 2), -2), (SOME, (0, 2), -22)],
    "look": [(SOME, (3,), -2), (SOME, (6,), -2)],
    "bare": [(SOME, (3,), -2), (SOME, (4,), -2)],
}

# For each call arguments that the town SOME has, and what is answered where the first, the second
# or the third of them is as large as may be.
LARGEST = {
    "street": ((9, 100), (-22, -22)),
    "rename": ((0, 9), (-2, -22)),
    "house": ((0, 0, 9), (-2, -22, -22)),
    "pull": ((0,), (-2,)),
    "plate": ((0, 9, 0), (-2, -22, -22)),
    "unplate": ((0,), (-2,)),
    "anew": ((0,), (-2,)),
    "between": ((0,), (-2,)),
    "order": ((0, 0), (-2, -22)),
    "right": ((0,), (-2,)),
    "fewest": ((0, 0), (-2, -22)),
    "mend": ((0, 0), (-2, -22)),
    "find": ((1, 1, 0), (-2, -22, -22)),
    "opposite": ((0,), (-2,)),
    "next": ((0,), (-2,)),
    "closest": ((0, 5), (-2, -22)),
    "walk": ((0, 1), (-2, -2)),
    "join": ((0, 1), (-2, -2)),
    "cut": ((0, 5, 9), (-2, -22, -22)),
    "count": ((0,), (-2,)),
    "free": ((0, 0), (-2, -22)),
    "look": ((0,), (-2,)),
    "bare": ((0,), (-2,)),
}


def orders(calls):
    return run(calls + [("order", street, side) for street in range(6) for side in (0, 1)])[len(calls):]


class Refusals(unittest.TestCase):
    def test_each_one_is_told_and_changes_nothing(self):
        for name, cases in REFUSED.items():
            for base, given, answer in cases:
                with self.subTest(name=name, given=given, answer=answer):
                    refused = base + [(name,) + given]
                    self.assertEqual(last(refused), [answer])
                    self.assertEqual(seen(refused), seen(base))
                    self.assertEqual(orders(refused), orders(base))

    def test_every_call_that_may_be_refused_is_among_them(self):
        self.assertEqual(set(REFUSED), set(NAMES) - {"begin", "streets", "state"})

    def test_before_a_begin_nothing_is_changed(self):
        for name in NAMES[1:]:
            with self.subTest(name=name):
                refused = [(name,) + (1,) * ARGUMENTS[name], ("begin",)]
                self.assertEqual(seen(refused), seen([("begin",)]))


class Largest(unittest.TestCase):
    def test_in_each_place(self):
        for name, (given, answers) in LARGEST.items():
            for place, answer in enumerate(answers):
                with self.subTest(name=name, place=place):
                    call = (name,) + given[:place] + (MOST,) + given[place + 1:]
                    self.assertEqual(last(SOME + [call]), [answer])
                    self.assertEqual(seen(SOME + [call]), seen(SOME))

    def test_every_place_of_every_call_is_among_them(self):
        self.assertEqual({name: len(answers) for name, (given, answers) in LARGEST.items()},
                         {name: count for name, count in ARGUMENTS.items() if count > 0})

    def test_in_every_place_at_once(self):
        for name in LARGEST:
            with self.subTest(name=name):
                answer = -22 if name == "street" else -2
                self.assertEqual(last(SOME + [(name,) + (MOST,) * ARGUMENTS[name]]), [answer])


if __name__ == "__main__":
    unittest.main()
