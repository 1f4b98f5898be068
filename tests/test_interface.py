"""The interface: how calls are handed in, how answers are given back, and what is left alone."""

import unittest

from housenumbers import town
from tests.helper import MOST, one_street, run, side_with, written


class Interface(unittest.TestCase):
    def test_answers_number_by_number_with_how_many_stand_before(self):
        calls = [
            1, 5, 100,               # street before begin: refused
            0,                       # begin
            1, 5, 100,               # street: 0
            3, 0, 0, 30,             # house: 0
            3, 0, 0, 10,             # house: 1
            5, 0, 3, 2,              # plate: 0, none before
            5, 1, 7, 0,              # plate: 0, none before
            9, 0, 0,                 # order: 2 houses, 1 and 0
            10, 0,                   # right: 0, then house 0
            11, 0, 0,                # fewest: 1, then house 1, without how many stay
            12, 0, 0,                # mend: 1
            10, 0,                   # right: 1, alone
            6, 1,                    # unplate: 0, 7, 0
            8, 1,                    # between: 0, 1, 0
            7, 0,                    # anew: only house 0 differs
            2, 0, 6,                 # rename: it was 5
            4, 0,                    # pull: 0, 3, 0
            4, 0,                    # pull: none such any more
        ]
        self.assertEqual(town.answers(calls), [
            1, -11, 1, 0, 1, 0, 1, 0, 1, 1, 3, 0, 0, 0, 3, 0, 0, 0, 3, 2, 1, 0, 2, 0, 0, 2, 1, 1, 1, 1, 1, 1,
            3, 0, 7, 0, 3, 0, 1, 0, 1, 1, 1, 5, 3, 0, 3, 0, 1, -2,
        ])

    def test_one_call(self):
        self.assertEqual(town.answers([0]), [1, 0])
        self.assertEqual(town.answers([9, 0, 0]), [1, -11])

    def test_a_number_below_0_stands_alone(self):
        calls = one_street() + side_with([(1, 0), None, (1, 1)])
        refused = [
            ("pull", 9), ("plate", 0, 2, 0), ("plate", 0, 1, 0), ("unplate", 1), ("between", 0), ("between", 1),
            ("order", 0, 2), ("right", 1), ("fewest", 0, 2), ("fewest", 1, 0), ("order", 1, 0),
        ]
        told = run(calls + refused)[len(calls):]
        self.assertEqual(told, [[-2], [-71], [-17], [-6], [-17], [-33], [-22], [-2], [-22], [-2], [-2]])

    def test_arguments_as_large_as_may_be(self):
        calls = one_street() + [("house", 0, 0, 5)]
        further = [
            ("street", MOST, MOST), ("rename", 0, MOST), ("rename", MOST, 2), ("house", 0, MOST, 5), ("house", 0, 0, MOST),
            ("house", MOST, 0, 5), ("pull", MOST), ("plate", 0, MOST, 0), ("plate", 0, 1, MOST), ("plate", MOST, 1, 0),
            ("unplate", MOST), ("anew", MOST), ("between", MOST), ("order", MOST, 0), ("order", 0, MOST),
            ("right", MOST), ("fewest", MOST, 0), ("fewest", 0, MOST), ("mend", MOST, 0), ("mend", 0, MOST),
        ]
        told = [answer[0] for answer in run(calls + further)[len(calls):]]
        self.assertEqual(told, [-22, -22, -2, -22, -22, -2, -2, -22, -22, -2, -2, -2, -2, -2, -22, -2, -2, -22, -2, -22])

    def test_what_is_handed_in_is_as_it_was(self):
        calls = written(one_street() + side_with([(5, 0), (3, 0), None]) + [("mend", 0, 0), ("between", 2), ("anew", 0)])
        before = list(calls)
        town.answers(calls)
        self.assertEqual(calls, before)

    def test_it_is_only_read(self):
        class ReadOnly(list):
            def refuse(self, *given):
                raise AssertionError("what is handed in was changed")

            append = extend = insert = pop = remove = clear = sort = reverse = refuse
            __setitem__ = __delitem__ = __iadd__ = __imul__ = refuse

        calls = written(one_street() + side_with([(5, 0), (3, 0), None]) + [("mend", 0, 0), ("between", 2), ("anew", 0)])
        self.assertEqual(town.answers(ReadOnly(calls)), town.answers(calls))

    def test_nothing_is_kept_from_one_time_to_the_next(self):
        calls = written(one_street() + side_with([(5, 0), (3, 0)]) + [("fewest", 0, 0), ("mend", 0, 0), ("pull", 0)])
        first = town.answers(calls)
        self.assertEqual(town.answers([9, 0, 0]), [1, -11])
        self.assertEqual(town.answers([0, 9, 0, 0]), [1, 0, 1, -2])
        self.assertEqual(town.answers(calls), first)

    def test_what_is_given_back_may_be_changed(self):
        first = town.answers([0])
        first.append(7)
        self.assertEqual(town.answers([0]), [1, 0])

    def test_whole_numbers_in_a_list(self):
        calls = written(one_street() + side_with([(5, 0), (3, 0), None]) + [
            ("right", 0), ("fewest", 0, 0), ("mend", 0, 0), ("right", 0), ("order", 0, 0), ("between", 2), ("anew", 0),
            ("rename", 0, 9), ("unplate", 1), ("pull", 1), ("right", 4),
        ])
        told = town.answers(calls)
        self.assertIs(type(told), list)
        self.assertEqual({type(number) for number in told}, {int})

    def test_400_calls(self):
        calls = one_street() + side_with([(place * 2 + 1, 0) for place in range(10)])
        calls += side_with([(20 - place * 2, 3) for place in range(10)], 1, 10)
        while len(calls) < 400:
            calls.append(("fewest", 0, len(calls) % 2))
        told = run(calls)
        self.assertEqual(len(told), 400)
        self.assertEqual(told[-2:], [[0, 0, 1, 2, 3, 4, 5, 6, 7, 8, 9], [9, 10]])

    def test_400_refused_calls_of_four_numbers(self):
        self.assertEqual(town.answers([3, 0, 0, 0] * 400), [1, -11] * 400)

    def test_400_begins(self):
        self.assertEqual(town.answers([0] * 400), [1, 0] * 400)


if __name__ == "__main__":
    unittest.main()
