"""Points 4 and 5: order, right, fewest, mend."""

import unittest

from tests.helper import EVEN, MOST, ODD, last, one_street, plates_after, side_with, tail


class Order(unittest.TestCase):
    def test_by_metres_not_by_numbers(self):
        calls = one_street() + [("house", 0, 0, metre) for metre in (50, 0, 1999, 7)]
        self.assertEqual(last(calls + [("order", 0, 0)]), [4, 1, 3, 0, 2])

    def test_each_side_and_street_by_itself(self):
        calls = one_street() + [("street", 2, 50), ("house", 0, 1, 9), ("house", 1, 1, 3), ("house", 0, 1, 4)]
        told = tail(calls, [("order", 0, 0), ("order", 0, 1), ("order", 1, 0), ("order", 1, 1)])
        self.assertEqual(told, [[0], [2, 2, 0], [0], [1, 1]])

    def test_bounds_of_the_side(self):
        for side, answer in ((0, 0), (1, 0), (2, -22), (MOST, -22)):
            with self.subTest(side=side):
                self.assertEqual(last(one_street() + [("order", 0, side)]), [answer])

    def test_ten(self):
        calls = one_street() + [("house", 0, 1, 100 - metre) for metre in range(10)]
        self.assertEqual(last(calls + [("order", 0, 1)]), [10, 9, 8, 7, 6, 5, 4, 3, 2, 1, 0])


class Right(unittest.TestCase):
    def check(self, odd, even, answer):
        calls = one_street() + side_with(odd) + side_with(even, EVEN, len(odd))
        self.assertEqual(last(calls + [("right", 0)]), answer)

    def test_no_houses_no_plates(self):
        self.check([], [], [1])
        self.check([None, None], [None], [1])

    def test_both_rise(self):
        self.check([(1, 0), (1, 1), (3, 0)], [(2, 26), (4, 0)], [1])

    def test_houses_without_plates_are_passed_over(self):
        self.check([(1, 0), None, (3, 0)], [], [1])
        self.check([(3, 0), None, (1, 0)], [], [0, 2])

    def test_the_first_that_does_not_rise(self):
        self.check([(1, 0), (5, 0), (3, 0), (1, 1)], [], [0, 2])
        self.check([(5, 1), (5, 0)], [], [0, 1])

    def test_the_one_before_is_the_next_before_not_the_highest(self):
        self.check([(9, 0), (1, 0), (3, 0), (5, 0)], [], [0, 1])
        self.check([(3, 0), (9, 0), (1, 0), (5, 0)], [], [0, 2])

    def test_the_odd_side_first(self):
        self.check([(3, 0), (1, 0)], [(4, 0), (2, 0)], [0, 1])
        self.check([(1, 0), (3, 0)], [(4, 0), (2, 0)], [0, 3])

    def test_the_odd_side_first_though_farther_on(self):
        self.check([(1, 0), (3, 0), (5, 0), (1, 1)], [(4, 0), (2, 0)], [0, 3])

    def test_in_order_not_by_house_numbers(self):
        calls = one_street() + [("house", 0, 0, 90), ("plate", 0, 1, 0), ("house", 0, 0, 10), ("plate", 1, 3, 0)]
        self.assertEqual(last(calls + [("right", 0)]), [0, 0])


class FewestAndMend(unittest.TestCase):
    def check(self, plates, staying, mended, side=ODD):
        """What fewest and mend answer of a side with these plates, and the plates then."""
        calls = one_street() + side_with(plates, side)
        changed = len([plate for plate in plates if plate is not None]) - len(staying)
        told = tail(calls, [("fewest", 0, side), ("mend", 0, side), ("right", 0), ("mend", 0, side)])
        self.assertEqual(told, [[changed] + staying, [changed], [1], [0]])
        # A look at the plates behind fewest alone: it only tells.
        self.assertEqual(plates_after(calls + [("fewest", 0, side)], range(len(plates))), [p or (0, 0) for p in plates])
        self.assertEqual(plates_after(calls + [("mend", 0, side)], range(len(plates))), [p or (0, 0) for p in mended])

    def test_bounds_of_the_side(self):
        for name in ("fewest", "mend"):
            for side, answer in ((0, 0), (1, 0), (2, -22), (MOST, -22)):
                with self.subTest(name=name, side=side):
                    self.assertEqual(last(one_street() + [(name, 0, side)]), [answer])

    def test_a_side_without_plates(self):
        self.check([], [], [])
        self.check([None, None], [], [None, None])
        self.check([None], [], [None], EVEN)

    def test_plates_that_rise_stay(self):
        self.check([(1, 0), (1, 1), (3, 0), (999, 26)], [0, 1, 2, 3], [(1, 0), (1, 1), (3, 0), (999, 26)])
        self.check([(2, 0)], [0], [(2, 0)], EVEN)

    def test_one_too_low(self):
        self.check([(3, 0), (5, 0), (1, 0), (7, 0)], [0, 1, 3], [(3, 0), (5, 0), (5, 1), (7, 0)])

    def test_one_too_high_at_the_beginning(self):
        self.check([(9, 0), (3, 0), (5, 0)], [1, 2], [(1, 0), (3, 0), (5, 0)])
        self.check([(10, 0), (4, 0), (6, 0)], [1, 2], [(2, 0), (4, 0), (6, 0)], EVEN)

    def test_of_alike_many_the_earlier_stays(self):
        self.check([(5, 0), (3, 0)], [0], [(5, 0), (5, 1)])
        self.check([(7, 0), (5, 0), (3, 0)], [0], [(7, 0), (7, 1), (7, 2)])
        self.check([(5, 0), (7, 0), (3, 0), (9, 0)], [0, 1, 3], [(5, 0), (7, 0), (7, 1), (9, 0)])

    def test_earlier_where_they_first_differ(self):
        # 0 2 and 0 1 and 1 .. are alike long: the first place decides, then the second.
        self.check([(5, 0), (9, 0), (7, 0)], [0, 1], [(5, 0), (9, 0), (9, 1)])
        # The longest begins only at the second house.
        self.check([(9, 0), (5, 0), (7, 0), (11, 0), (3, 0)], [1, 2, 3], [(1, 0), (5, 0), (7, 0), (11, 0), (11, 1)])

    def test_no_room_between_for_one_that_does_not_stay(self):
        # 3 and 3a rise, but none lies between for the house between them.
        self.check([(3, 0), (9, 0), (3, 1)], [0, 1], [(3, 0), (9, 0), (9, 1)])
        self.check([(3, 0), (1, 0), (3, 1)], [0], [(3, 0), (3, 1), (3, 2)])
        self.check([(3, 0), (1, 0), (3, 2)], [0, 2], [(3, 0), (3, 1), (3, 2)])
        self.check([(3, 26), (1, 0), (5, 0)], [0], [(3, 26), (5, 0), (5, 1)])
        self.check([(3, 25), (1, 0), (5, 0)], [0, 2], [(3, 25), (3, 26), (5, 0)])

    def test_no_room_for_two_between(self):
        self.check([(3, 0), (1, 0), (1, 1), (3, 2)], [0], [(3, 0), (3, 1), (3, 2), (3, 3)])
        self.check([(3, 0), (1, 0), (1, 1), (3, 3)], [0, 3], [(3, 0), (3, 1), (3, 2), (3, 3)])

    def test_no_room_before_the_first(self):
        self.check([(3, 0), (1, 0)], [0], [(3, 0), (3, 1)])
        self.check([(9, 0), (1, 0), (1, 1), (3, 0), (5, 0)], [3, 4], [(1, 0), (1, 1), (1, 2), (3, 0), (5, 0)])
        self.check([(9, 0), (1, 1), (3, 0)], [1, 2], [(1, 0), (1, 1), (3, 0)])

    def test_no_room_behind_the_last(self):
        self.check([(999, 26), (5, 0)], [1], [(1, 0), (5, 0)])
        self.check([(998, 26), (6, 0)], [1], [(2, 0), (6, 0)], EVEN)
        self.check([(999, 25), (5, 0)], [0], [(999, 25), (999, 26)])
        self.check([(998, 25), (6, 0)], [0], [(998, 25), (998, 26)], EVEN)
        self.check([(999, 25), (5, 0), (3, 0)], [1], [(1, 0), (5, 0), (5, 1)])

    def test_none_can_stay(self):
        self.check([(999, 26), (1, 0)], [], [(1, 0), (1, 1)])
        self.check([(998, 26), (2, 0)], [], [(2, 0), (2, 1)], EVEN)

    def test_the_least_plate_runs_through_the_letters_to_the_next_number(self):
        self.check([(3, 26), (1, 0)], [0], [(3, 26), (5, 0)])
        self.check([(3, 25), (1, 1), (1, 0)], [0], [(3, 25), (3, 26), (5, 0)])

    def test_houses_without_plates_need_none_and_get_none(self):
        self.check([(3, 0), None, (3, 1)], [0, 2], [(3, 0), None, (3, 1)])
        self.check([None, (5, 0), None, (3, 0), None], [1], [None, (5, 0), None, (5, 1), None])

    def test_ten_falling(self):
        plates = [(19 - 2 * place, 0) for place in range(10)]
        self.check(plates, [0], [(19, place) for place in range(10)])

    def test_in_order_not_by_house_numbers(self):
        calls = one_street() + [
            ("house", 0, 0, 90), ("house", 0, 0, 50), ("house", 0, 0, 10),
            ("plate", 0, 5, 0), ("plate", 1, 1, 0), ("plate", 2, 3, 0),
        ]
        self.assertEqual(last(calls + [("fewest", 0, 0)]), [1, 2, 0])
        self.assertEqual(plates_after(calls + [("mend", 0, 0)], range(3)), [(5, 0), (3, 1), (3, 0)])

    def test_the_other_side_and_other_streets_stay_as_they_were(self):
        calls = one_street() + side_with([(3, 0), (1, 0)]) + side_with([(4, 0), (2, 0)], EVEN, 2)
        calls += [("street", 2, 50), ("house", 1, 0, 1), ("house", 1, 0, 2), ("plate", 4, 3, 0), ("plate", 5, 1, 0)]
        self.assertEqual(plates_after(calls + [("mend", 0, 0)], range(6)),
                         [(3, 0), (3, 1), (4, 0), (2, 0), (3, 0), (1, 0)])


if __name__ == "__main__":
    unittest.main()
