"""Point 6: find, opposite, next, closest, walk."""

import unittest

from tests.helper import EVEN, MOST, ODD, last, one_street, side_with, tail


class Find(unittest.TestCase):
    def town(self):
        """Street 0 (name 1): 5, 5b and a bare house on the odd side, 6 on the even one; street 1 (name 2): 7."""
        calls = one_street(100) + side_with([(5, 0), (5, 2), None]) + side_with([(6, 0)], EVEN, 3)
        return calls + [("street", 2, 50), ("house", 1, 0, 40), ("plate", 4, 7, 0)]

    def check(self, call, answer, between=()):
        self.assertEqual(last(self.town() + list(between) + [call]), answer)

    def test_the_house_its_side_its_metre(self):
        self.check(("find", 1, 5, 0), [0, 0, 5])
        self.check(("find", 1, 5, 2), [1, 0, 15])
        self.check(("find", 1, 6, 0), [3, 1, 5])
        self.check(("find", 2, 7, 0), [4, 0, 40])

    def test_nobody_has_the_plate(self):
        for plate in ((5, 1), (3, 0), (8, 0), (6, 1), (999, 26), (998, 0), (1, 0)):
            with self.subTest(plate=plate):
                self.check(("find", 1) + plate, [-33])

    def test_a_plate_of_the_other_street(self):
        self.check(("find", 1, 7, 0), [-33])
        self.check(("find", 2, 5, 0), [-33])

    def test_the_other_sides_number_is_only_found_there(self):
        # Street 1 has a house on its odd side alone: an even number is nobody's there, not refused as such.
        self.check(("find", 2, 8, 0), [-33])
        self.check(("find", 2, 6, 0), [-33])
        self.check(("find", 2, 6, 0), [5, 1, 3], [("house", 1, 1, 3), ("plate", 5, 6, 0)])

    def test_bounds_of_the_number(self):
        for number, answer in ((0, -22), (1, -33), (999, -33), (1000, -22), (1001, -22), (MOST, -22)):
            with self.subTest(number=number):
                self.check(("find", 1, number, 0), [answer])

    def test_bounds_of_the_letter(self):
        for letter, answer in ((1, -33), (26, -33), (27, -22), (MOST, -22)):
            with self.subTest(letter=letter):
                self.check(("find", 1, 5, letter), [answer])

    def test_a_house_without_a_plate_is_not_found_by_0(self):
        self.check(("find", 1, 0, 0), [-22])

    def test_the_first_and_the_last_plates(self):
        for plate in ((1, 0), (999, 26)):
            self.check(("find", 1) + plate, [2, 0, 25], [("plate", 2) + plate])
        for plate in ((2, 0), (998, 26)):
            self.check(("find", 1) + plate, [3, 1, 5], [("plate", 3) + plate])

    def test_no_street_of_that_name_comes_first(self):
        for call in (("find", 3, 5, 0), ("find", 3, 0, 0), ("find", 3, 5, 27), ("find", 0, 5, 0), ("find", 0, 0, 0),
                     ("find", 1000, 5, 0), ("find", MOST, 5, 0)):
            with self.subTest(call=call):
                self.check(call, [-2])

    def test_by_a_name_not_by_a_streets_number(self):
        self.check(("find", 0, 5, 0), [-2])
        self.check(("find", 1, 5, 0), [-33], [("rename", 0, 3), ("rename", 1, 1)])

    def test_a_name_that_was_a_streets(self):
        self.check(("find", 1, 5, 0), [-2], [("rename", 0, 9)])
        self.check(("find", 1, 0, 99), [-2], [("rename", 0, 9)])
        self.check(("find", 9, 5, 0), [0, 0, 5], [("rename", 0, 9)])

    def test_the_name_of_a_street_that_was_joined(self):
        self.check(("find", 2, 7, 0), [-2], [("join", 0, 1)])
        self.check(("find", 2, 0, 27), [-2], [("join", 0, 1)])
        self.check(("find", 1, 7, 0), [4, 0, 140], [("join", 0, 1)])

    def test_a_name_that_is_another_streets_now(self):
        self.check(("find", 1, 7, 0), [4, 0, 40], [("rename", 0, 9), ("rename", 1, 1)])
        self.check(("find", 1, 5, 0), [-33], [("rename", 0, 9), ("rename", 1, 1)])
        self.check(("find", 2, 7, 0), [-33], [("join", 0, 1), ("street", 2, 50)])
        self.check(("find", 2, 5, 0), [0, 0, 5], [("join", 0, 1), ("rename", 0, 2)])

    def test_after_a_cut(self):
        self.check(("find", 3, 5, 2), [1, 0, 3], [("cut", 0, 12, 3)])
        self.check(("find", 1, 5, 2), [-33], [("cut", 0, 12, 3)])
        self.check(("find", 1, 5, 0), [0, 0, 5], [("cut", 0, 12, 3)])

    def test_a_plate_that_is_gone(self):
        self.check(("find", 1, 5, 0), [-33], [("pull", 0)])
        self.check(("find", 1, 5, 0), [-33], [("unplate", 0)])
        self.check(("find", 1, 5, 0), [2, 0, 25], [("unplate", 0), ("plate", 2, 5, 0)])
        self.check(("find", 1, 5, 0), [1, 0, 15], [("anew", 0), ("plate", 2, 9, 0), ("plate", 1, 5, 0)])


class Opposite(unittest.TestCase):
    def check(self, side, metre, across, answer):
        """What opposite answers of house 0 at that metre with houses across, numbered from 1 on."""
        calls = one_street() + [("house", 0, side, metre)] + [("house", 0, 1 - side, other) for other in across]
        self.assertEqual(last(calls + [("opposite", 0)]), answer)

    def test_the_nearest_and_by_how_much(self):
        for side in (ODD, EVEN):
            self.check(side, 50, [10, 45, 60], [2, 5])
            self.check(side, 50, [10, 60, 41], [3, 9])
            self.check(side, 50, [1999], [1, 1949])
            self.check(side, 0, [1999, 1998], [2, 1998])
            self.check(side, 1999, [0, 1], [2, 1998])

    def test_straight_across(self):
        self.check(ODD, 50, [49, 50, 51], [2, 0])
        self.check(EVEN, 0, [0], [1, 0])

    def test_of_two_as_near_the_one_at_the_lesser_metre(self):
        for side in (ODD, EVEN):
            self.check(side, 50, [45, 55], [1, 5])
            self.check(side, 50, [55, 45], [2, 5])
            self.check(side, 50, [90, 51, 10, 49], [4, 1])
            self.check(side, 50, [55, 46], [2, 4])
            self.check(side, 50, [54, 45], [1, 4])

    def test_none_on_the_other_side(self):
        self.check(ODD, 50, [], [-33])
        self.check(EVEN, 50, [], [-33])
        calls = one_street() + [("house", 0, 0, 5), ("house", 0, 0, 6), ("street", 2, 50), ("house", 1, 1, 5)]
        self.assertEqual(tail(calls, [("opposite", 0), ("opposite", 2)]), [[-33], [-33]])

    def test_another_streets_are_not_across(self):
        calls = one_street() + [("street", 2, 50), ("house", 0, 0, 5), ("house", 1, 1, 5), ("house", 0, 1, 40)]
        self.assertEqual(last(calls + [("opposite", 0)]), [2, 35])

    def test_one_pulled_down_is_not_across(self):
        calls = one_street() + [("house", 0, 0, 5), ("house", 0, 1, 5), ("house", 0, 1, 40)]
        told = tail(calls, [("pull", 1), ("opposite", 0), ("pull", 2), ("opposite", 0), ("opposite", 2)])
        self.assertEqual(told, [[0, 0, 0], [2, 35], [0, 0, 0], [-33], [-2]])

    def test_after_a_cut_and_a_join(self):
        calls = one_street() + [("house", 0, 0, 50), ("house", 0, 1, 51), ("house", 0, 1, 40)]
        told = tail(calls, [("opposite", 0), ("cut", 0, 51, 2), ("opposite", 0), ("opposite", 1)])
        self.assertEqual(told, [[1, 1], [1, 1949], [2, 10], [-33]])
        told = tail(calls + [("cut", 0, 51, 2)], [("join", 0, 1), ("opposite", 0), ("opposite", 1)])
        self.assertEqual(told, [[2000, 0], [1, 1], [0, 1]])
        told = tail(calls + [("cut", 0, 51, 2)], [("join", 1, 0), ("opposite", 0), ("opposite", 1)])
        self.assertEqual(told, [[2000, 0], [2, 10], [0, 1999]])


class Next(unittest.TestCase):
    def test_the_next_one_in_order_and_by_how_much(self):
        calls = one_street() + [("house", 0, 1, metre) for metre in (50, 0, 1999, 7)]
        told = tail(calls, [("next", 1), ("next", 3), ("next", 0), ("next", 2)])
        self.assertEqual(told, [[3, 7], [0, 43], [2, 1949], [-33]])

    def test_the_only_one_of_its_side(self):
        calls = one_street() + [("house", 0, 0, 5), ("house", 0, 1, 6), ("street", 2, 50), ("house", 1, 0, 6)]
        self.assertEqual(tail(calls, [("next", 0), ("next", 1), ("next", 2)]), [[-33], [-33], [-33]])

    def test_only_of_its_side_and_street(self):
        calls = one_street() + [
            ("street", 2, 50), ("house", 0, 0, 5), ("house", 0, 1, 6), ("house", 1, 0, 7), ("house", 0, 0, 20),
        ]
        self.assertEqual(last(calls + [("next", 0)]), [3, 15])

    def test_with_a_plate_or_without(self):
        calls = one_street() + side_with([(9, 0), None, (1, 0)])
        self.assertEqual(tail(calls, [("next", 0), ("next", 1)]), [[1, 10], [2, 10]])

    def test_one_pulled_down_is_passed_over(self):
        calls = one_street() + side_with([None, None, None])
        told = tail(calls, [("pull", 1), ("next", 0), ("next", 1), ("pull", 2), ("next", 0)])
        self.assertEqual(told, [[0, 0, 0], [2, 20], [-2], [0, 0, 0], [-33]])

    def test_after_a_cut_and_a_join(self):
        calls = one_street(100) + side_with([None, None, None]) + [("cut", 0, 15, 2)]
        self.assertEqual(tail(calls, [("next", 0), ("next", 1), ("next", 2)]), [[-33], [2, 10], [-33]])
        told = tail(calls, [("join", 1, 0), ("next", 0), ("next", 1), ("next", 2)])
        self.assertEqual(told, [[100, 0], [-33], [2, 10], [0, 80]])


class Closest(unittest.TestCase):
    def check(self, houses, metre, answer):
        """What closest answers of that metre with houses (side, metre), numbered in this order."""
        calls = one_street() + [("house", 0, side, other) for side, other in houses]
        self.assertEqual(last(calls + [("closest", 0, metre)]), answer)

    def test_the_nearest_its_side_and_how_far(self):
        self.check([(0, 10), (0, 60), (1, 45)], 50, [2, 1, 5])
        self.check([(0, 10), (0, 60), (1, 35)], 50, [1, 0, 10])
        self.check([(1, 1999)], 0, [0, 1, 1999])
        self.check([(0, 0), (1, 1)], 1999, [1, 1, 1998])

    def test_just_there(self):
        self.check([(0, 49), (1, 50), (0, 51)], 50, [1, 1, 0])
        self.check([(1, 50), (0, 50)], 50, [1, 0, 0])

    def test_of_two_as_near_the_odd_side_first(self):
        self.check([(1, 45), (0, 55)], 50, [1, 0, 5])
        self.check([(0, 55), (1, 45)], 50, [0, 0, 5])
        self.check([(1, 45), (0, 45)], 50, [1, 0, 5])
        self.check([(1, 45), (1, 55), (0, 55)], 50, [2, 0, 5])

    def test_then_the_one_at_the_lesser_metre(self):
        for side in (ODD, EVEN):
            self.check([(side, 45), (side, 55)], 50, [0, side, 5])
            self.check([(side, 55), (side, 45)], 50, [1, side, 5])
        self.check([(1, 45), (0, 55), (0, 45)], 50, [2, 0, 5])

    def test_the_even_side_where_it_is_nearer(self):
        self.check([(0, 44), (0, 56), (1, 55)], 50, [2, 1, 5])

    def test_bounds_of_the_metre(self):
        for metres in (10, 11, 2000):
            for metre, answer in ((0, [0, 0, 5]), (metres - 1, [0, 0, metres - 6]), (metres, [-22]), (MOST, [-22])):
                with self.subTest(metres=metres, metre=metre):
                    self.assertEqual(last(one_street(metres) + [("house", 0, 0, 5), ("closest", 0, metre)]), answer)

    def test_no_houses(self):
        calls = one_street() + [("street", 2, 50), ("house", 1, 0, 5), ("house", 1, 1, 5)]
        told = tail(calls, [("closest", 0, 5), ("pull", 0), ("closest", 1, 5), ("pull", 1), ("closest", 1, 5)])
        self.assertEqual(told, [[-33], [0, 0, 0], [1, 1, 0], [0, 0, 0], [-33]])

    def test_out_of_range_before_none(self):
        self.assertEqual(last(one_street(50) + [("closest", 0, 50)]), [-22])
        self.assertEqual(last(one_street(50) + [("closest", 0, 49)]), [-33])

    def test_after_a_cut_and_a_join(self):
        calls = one_street(100) + [("house", 0, 0, 50), ("cut", 0, 50, 2)]
        told = tail(calls, [("closest", 0, 49), ("closest", 0, 50), ("closest", 1, 0), ("closest", 1, 49), ("closest", 1, 50)])
        self.assertEqual(told, [[-33], [-22], [0, 0, 0], [0, 0, 49], [-22]])
        told = tail(calls, [("join", 0, 1), ("closest", 0, 99), ("closest", 0, 100), ("closest", 1, 0)])
        self.assertEqual(told, [[100, 0], [0, 0, 49], [-22], [-2]])


class Walk(unittest.TestCase):
    def test_by_how_much_their_metres_differ(self):
        calls = one_street() + [("house", 0, 0, 1999), ("house", 0, 0, 7), ("house", 0, 1, 7), ("house", 0, 1, 0)]
        told = tail(calls, [("walk", 0, 1), ("walk", 1, 0), ("walk", 1, 2), ("walk", 0, 3), ("walk", 3, 0), ("walk", 2, 3)])
        self.assertEqual(told, [[1992], [1992], [0], [1999], [1999], [7]])

    def test_a_house_with_itself(self):
        self.assertEqual(last(one_street() + [("house", 0, 1, 1999), ("walk", 0, 0)]), [0])

    def test_houses_on_two_streets(self):
        calls = one_street() + [("street", 2, 50), ("house", 0, 0, 5), ("house", 1, 0, 5)]
        self.assertEqual(tail(calls, [("walk", 0, 1), ("walk", 1, 0), ("walk", 1, 1)]), [[-16], [-16], [0]])

    def test_a_house_pulled_down(self):
        calls = one_street() + [("street", 2, 50), ("house", 0, 0, 5), ("house", 0, 0, 6), ("house", 1, 0, 5), ("pull", 1)]
        further = [("walk", 0, 1), ("walk", 1, 0), ("walk", 1, 1), ("walk", 2, 1), ("walk", 1, 2), ("walk", 0, 0)]
        self.assertEqual(tail(calls, further), [[-2], [-2], [-2], [-2], [-2], [0]])

    def test_after_a_cut_and_a_join(self):
        calls = one_street(100) + [("street", 2, 50), ("house", 0, 0, 5), ("house", 1, 1, 7), ("house", 0, 1, 90)]
        told = tail(calls, [
            ("walk", 0, 1), ("join", 0, 1), ("walk", 0, 1), ("walk", 1, 2), ("cut", 0, 90, 3), ("walk", 0, 1), ("walk", 1, 2),
        ])
        self.assertEqual(told, [[-16], [150, 0], [102], [17], [2, 60], [-16], [17]])


if __name__ == "__main__":
    unittest.main()
