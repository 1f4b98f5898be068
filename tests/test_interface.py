"""The interface: how calls are handed in, how answers are given back, and what is left alone."""

import unittest

from housenumbers import town
from tests.helper import NAMES, one_street, run, side_with, written

# Every call at least once behind a begin, most of them carried out.
EVERY_CALL = one_street() + [("street", 2, 50)] + side_with([(5, 0), (3, 0), None]) + side_with([(3, 0)], 0, 3, 1) + [
    ("right", 0), ("fewest", 0, 0), ("mend", 0, 0), ("right", 0), ("order", 0, 0), ("between", 2), ("house", 0, 1, 3),
    ("find", 1, 5, 0), ("opposite", 0), ("next", 0), ("closest", 0, 5), ("walk", 0, 1), ("cut", 0, 14, 3), ("streets",),
    ("join", 2, 1), ("streets",), ("count", 2), ("free", 2, 0), ("look", 1), ("bare", 2), ("state",), ("anew", 2),
    ("rename", 0, 9), ("unplate", 1), ("pull", 1), ("right", 4), ("look", 1), ("find", 2, 1, 0),
]


class Interface(unittest.TestCase):
    def test_answers_number_by_number_with_how_many_stand_before(self):
        calls = [
            1, 5, 100,               # street before begin: refused
            0,                       # begin
            1, 5, 100,               # street: 0
            3, 0, 0, 30,             # house: 0
            3, 0, 0, 10,             # house: 1
            5, 0, 3, 2,              # plate: 0, none before
            5, 1, 7, 0,              # plate: 0, none before
            9, 0, 0,                 # order: 2 houses, 1 and 0
            10, 0,                   # right: 0, then house 0
            11, 0, 0,                # fewest: 1, then house 1, without how many stay
            12, 0, 0,                # mend: 1
            10, 0,                   # right: 1, alone
            6, 1,                    # unplate: 0, 7, 0
            8, 1,                    # between: 0, 1, 0
            7, 0,                    # anew: only house 0 differs
            2, 0, 6,                 # rename: it was 5
            4, 0,                    # pull: 0, 3, 0
            4, 0,                    # pull: none such any more
        ]
        self.assertEqual(town.answers(calls), [
            1, -11, 1, 0, 1, 0, 1, 0, 1, 1, 3, 0, 0, 0, 3, 0, 0, 0, 3, 2, 1, 0, 2, 0, 0, 2, 1, 1, 1, 1, 1, 1,
            3, 0, 7, 0, 3, 0, 1, 0, 1, 1, 1, 5, 3, 0, 3, 0, 1, -2,
        ])

    def test_answers_of_the_later_calls_number_by_number(self):
        calls = [
            22,                      # streets before begin: refused
            0,                       # begin
            22,                      # streets: none
            25,                      # state: nothing
            1, 5, 100,               # street: 0
            1, 6, 50,                # street: 1
            3, 0, 0, 30,             # house: 0
            3, 0, 1, 40,             # house: 1
            3, 1, 0, 10,             # house: 2
            5, 0, 1, 0,              # plate: 0, none before
            5, 2, 1, 0,              # plate: 0, none before
            13, 5, 1, 0,             # find: house 0, side 0, metre 30
            13, 5, 3, 0,             # find: none
            14, 0,                   # opposite: house 1, 10
            15, 0,                   # next: none
            16, 0, 36,               # closest: house 1, side 1, 4
            17, 0, 1,                # walk: 10
            17, 0, 2,                # walk: not on one street
            18, 0, 1,                # join: 150 metres, one plate went
            15, 0,                   # next: house 2, 80
            22,                      # streets: 1, then 5, 150, and 0, 0
            20, 0,                   # count: 3, 2, 1, 1
            21, 0, 0,                # free: 3
            24, 0,                   # bare: 2, these 2 and 1
            23, 2,                   # look: street 0, side 0, metre 110, no plate
            19, 0, 110, 7,           # cut: 2, 40 metres
            23, 2,                   # look: street 2, side 0, metre 0, no plate
            24, 0,                   # bare: 1, this 1
            4, 2,                    # pull
            24, 2,                   # bare: 0
            20, 2,                   # count: 0, 0, 0, 0
            25,                      # state: 3, 3, 2
        ]
        self.assertEqual(town.answers(calls), [
            1, -11, 1, 0, 1, 0, 3, 0, 0, 0, 1, 0, 1, 1, 1, 0, 1, 1, 1, 2, 3, 0, 0, 0, 3, 0, 0, 0, 3, 0, 0, 30, 1, -33,
            2, 1, 10, 1, -33, 3, 1, 1, 4, 1, 10, 1, -16, 2, 150, 1, 2, 2, 80, 5, 1, 5, 150, 0, 0, 4, 3, 2, 1, 1, 1, 3,
            3, 2, 2, 1, 5, 0, 0, 110, 0, 0, 2, 2, 40, 5, 2, 0, 0, 0, 0, 2, 1, 1, 3, 0, 0, 0, 1, 0, 4, 0, 0, 0, 0,
            3, 3, 3, 2,
        ])

    def test_one_call(self):
        self.assertEqual(town.answers([0]), [1, 0])
        self.assertEqual(town.answers([9, 0, 0]), [1, -11])

    def test_a_number_below_0_stands_alone(self):
        calls = one_street() + side_with([(1, 0), None, (1, 1)])
        refused = [
            ("pull", 9), ("plate", 0, 2, 0), ("plate", 0, 1, 0), ("unplate", 1), ("between", 0), ("between", 1),
            ("order", 0, 2), ("right", 1), ("fewest", 0, 2), ("fewest", 1, 0), ("order", 1, 0), ("find", 1, 3, 0),
            ("find", 2, 1, 0), ("opposite", 0), ("next", 2), ("closest", 0, 2000), ("walk", 0, 3), ("join", 0, 0),
            ("cut", 0, 5, 1), ("count", 1), ("free", 0, 2), ("look", 3), ("bare", 1),
        ]
        told = run(calls + refused)[len(calls):]
        self.assertEqual(told, [[-2], [-71], [-17], [-6], [-17], [-33], [-22], [-2], [-22], [-2], [-2], [-33], [-2], [-33],
                                [-33], [-22], [-2], [-22], [-17], [-2], [-22], [-2], [-2]])

    def test_what_is_handed_in_is_as_it_was(self):
        calls = written(EVERY_CALL)
        before = list(calls)
        town.answers(calls)
        self.assertEqual(calls, before)

    def test_every_call_is_among_those_held_so(self):
        self.assertEqual({call[0] for call in EVERY_CALL}, set(NAMES))

    def test_it_is_only_read(self):
        class ReadOnly(list):
            def refuse(self, *given):
                raise AssertionError("what is handed in was changed")

            append = extend = insert = pop = remove = clear = sort = reverse = refuse
            __setitem__ = __delitem__ = __iadd__ = __imul__ = refuse

        calls = written(EVERY_CALL)
        self.assertEqual(town.answers(ReadOnly(calls)), town.answers(calls))

    def test_nothing_is_kept_from_one_time_to_the_next(self):
        calls = written(EVERY_CALL)
        first = town.answers(calls)
        self.assertEqual(town.answers([9, 0, 0]), [1, -11])
        self.assertEqual(town.answers([22]), [1, -11])
        self.assertEqual(town.answers([0, 9, 0, 0, 22, 25]), [1, 0, 1, -2, 1, 0, 3, 0, 0, 0])
        self.assertEqual(town.answers(calls), first)

    def test_what_is_given_back_may_be_changed(self):
        first = town.answers([0])
        first.append(7)
        self.assertEqual(town.answers([0]), [1, 0])

    def test_whole_numbers_in_a_list(self):
        told = town.answers(written(EVERY_CALL))
        self.assertIs(type(told), list)
        self.assertEqual({type(number) for number in told}, {int})

    def test_400_calls(self):
        calls = one_street() + side_with([(place * 2 + 1, 0) for place in range(10)])
        calls += side_with([(20 - place * 2, 3) for place in range(10)], 1, 10)
        while len(calls) < 400:
            calls.append(("fewest", 0, len(calls) % 2))
        told = run(calls)
        self.assertEqual(len(told), 400)
        self.assertEqual(told[-2:], [[0, 0, 1, 2, 3, 4, 5, 6, 7, 8, 9], [9, 10]])

    def test_400_refused_calls_of_four_numbers(self):
        self.assertEqual(town.answers([3, 0, 0, 0] * 400), [1, -11] * 400)

    def test_400_calls_with_cuts_and_joins(self):
        calls = []
        expected = []
        for turn in range(50):
            metre = turn % 9 + 1
            calls += [("begin",), ("street", 1, 10), ("house", 0, 0, 5), ("cut", 0, metre, 2), ("join", 0, 1), ("streets",)]
            calls += [("state",), ("look", 0)]
            expected += [[0], [0], [0], [1, 10 - metre], [10, 0], [1, 1, 10, 0, 0], [2, 1, 1], [0, 0, 5, 0, 0]]
        self.assertEqual(run(calls), expected)

    def test_400_begins(self):
        self.assertEqual(town.answers([0] * 400), [1, 0] * 400)


if __name__ == "__main__":
    unittest.main()
