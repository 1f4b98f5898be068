"""Points 2 and 3: plate, unplate, anew, between."""

import unittest

from tests.helper import EVEN, MOST, ODD, last, one_street, plates_after, side_with, tail


class Plate(unittest.TestCase):
    def test_answers_what_the_house_had(self):
        calls = one_street() + side_with([None])
        told = tail(calls, [("plate", 0, 5, 0), ("plate", 0, 5, 1), ("plate", 0, 7, 26), ("pull", 0)])
        self.assertEqual(told, [[0, 0, 0], [0, 5, 0], [0, 5, 1], [0, 7, 26]])

    def test_bounds_of_the_number(self):
        for side, number, answer in (
            (ODD, 0, [-22]), (ODD, 1, [0, 0, 0]), (ODD, 999, [0, 0, 0]), (ODD, 1000, [-22]), (ODD, 1001, [-22]),
            (EVEN, 0, [-22]), (EVEN, 2, [0, 0, 0]), (EVEN, 998, [0, 0, 0]), (EVEN, 1000, [-22]), (ODD, MOST, [-22]),
        ):
            with self.subTest(side=side, number=number):
                self.assertEqual(last(one_street() + side_with([None], side) + [("plate", 0, number, 0)]), answer)

    def test_bounds_of_the_letter(self):
        for letter, answer in ((0, [0, 0, 0]), (1, [0, 0, 0]), (26, [0, 0, 0]), (27, [-22]), (MOST, [-22])):
            with self.subTest(letter=letter):
                self.assertEqual(last(one_street() + side_with([None]) + [("plate", 0, 1, letter)]), answer)

    def test_the_other_sides_number(self):
        for side, number in ((ODD, 2), (ODD, 998), (EVEN, 1), (EVEN, 999)):
            with self.subTest(side=side, number=number):
                self.assertEqual(last(one_street() + side_with([None], side) + [("plate", 0, number, 0)]), [-71])

    def test_out_of_range_before_the_other_sides(self):
        for number, letter in ((2, 27), (0, 0), (1000, 0), (1000, 27)):
            with self.subTest(number=number, letter=letter):
                self.assertEqual(last(one_street() + side_with([None]) + [("plate", 0, number, letter)]), [-22])

    def test_a_plate_that_another_house_of_the_side_has(self):
        calls = one_street() + side_with([(5, 1), None])
        told = tail(calls, [("plate", 1, 5, 1), ("plate", 1, 5, 0), ("plate", 0, 5, 0), ("plate", 1, 5, 1)])
        self.assertEqual(told, [[-17], [0, 0, 0], [-17], [-17]])

    def test_the_plate_that_it_has_itself(self):
        self.assertEqual(last(one_street() + side_with([(5, 1)]) + [("plate", 0, 5, 1)]), [-17])

    def test_the_same_plate_on_another_street(self):
        calls = one_street() + side_with([(5, 0)]) + [("street", 2, 50), ("house", 1, 0, 5)]
        self.assertEqual(last(calls + [("plate", 1, 5, 0)]), [0, 0, 0])

    def test_a_plate_given_up_is_free(self):
        calls = one_street() + side_with([(5, 0), None]) + [("plate", 0, 7, 0)]
        self.assertEqual(tail(calls, [("plate", 1, 5, 0), ("plate", 0, 5, 0)]), [[0, 0, 0], [-17]])


class Unplate(unittest.TestCase):
    def test_answers_what_the_house_had(self):
        calls = one_street() + side_with([(9, 4)])
        self.assertEqual(tail(calls, [("unplate", 0), ("unplate", 0), ("pull", 0)]), [[0, 9, 4], [-6], [0, 0, 0]])

    def test_a_house_that_never_had_one(self):
        self.assertEqual(last(one_street() + side_with([None]) + [("unplate", 0)]), [-6])

    def test_the_plate_is_free_again(self):
        calls = one_street() + side_with([(9, 4), None]) + [("unplate", 0)]
        self.assertEqual(last(calls + [("plate", 1, 9, 4)]), [0, 0, 0])


class Anew(unittest.TestCase):
    def test_a_street_without_houses(self):
        self.assertEqual(last(one_street() + [("anew", 0)]), [0])

    def test_both_sides_in_order_of_their_metres(self):
        calls = one_street() + [
            ("house", 0, 0, 50), ("house", 0, 1, 7), ("house", 0, 0, 2), ("house", 0, 1, 0), ("house", 0, 0, 30),
        ]
        self.assertEqual(last(calls + [("anew", 0)]), [5])
        self.assertEqual(plates_after(calls + [("anew", 0)], range(5)), [(5, 0), (4, 0), (1, 0), (2, 0), (3, 0)])

    def test_counts_only_those_whose_plate_differs(self):
        calls = one_street() + side_with([(1, 0), (3, 1), (5, 0), None, (7, 0)])
        self.assertEqual(tail(calls, [("anew", 0), ("anew", 0)]), [[3], [0]])
        self.assertEqual(plates_after(calls + [("anew", 0)], range(5)), [(1, 0), (3, 0), (5, 0), (7, 0), (9, 0)])

    def test_ten_on_each_side(self):
        calls = one_street() + side_with([None] * 10) + side_with([None] * 10, EVEN, 10)
        self.assertEqual(last(calls + [("anew", 0)]), [20])
        expected = [(number, 0) for number in range(1, 20, 2)] + [(number, 0) for number in range(2, 21, 2)]
        self.assertEqual(plates_after(calls + [("anew", 0)], range(20)), expected)

    def test_plates_that_were_in_each_others_way(self):
        calls = one_street() + side_with([(5, 0), (3, 0), (1, 0)])
        self.assertEqual(last(calls + [("anew", 0)]), [2])
        self.assertEqual(plates_after(calls + [("anew", 0)], range(3)), [(1, 0), (3, 0), (5, 0)])

    def test_other_streets_stay_as_they_were(self):
        calls = one_street() + side_with([(9, 9)]) + [("street", 2, 50), ("house", 1, 0, 3)]
        self.assertEqual(plates_after(calls + [("anew", 1)], range(2)), [(9, 9), (1, 0)])


class Between(unittest.TestCase):
    def check(self, plates, house, answer, side=ODD):
        """What between answers of a house among these plates, and that it then has it, and only it."""
        calls = one_street() + side_with(plates, side) + [("between", house)]
        self.assertEqual(last(calls), answer)
        expected = [plate or (0, 0) for plate in plates]
        if answer[0] == 0:
            expected[house] = tuple(answer[1:])
        self.assertEqual(plates_after(calls, range(len(plates))), expected)

    def test_alone_on_its_side(self):
        self.check([None], 0, [0, 1, 0])
        self.check([None], 0, [0, 2, 0], EVEN)

    def test_among_houses_without_plates(self):
        self.check([None, None, None], 1, [0, 1, 0])

    def test_the_next_number_of_its_side(self):
        self.check([(1, 0), None], 1, [0, 3, 0])
        self.check([(1, 0), None, (5, 0)], 1, [0, 3, 0])
        self.check([(2, 0), None, (8, 0)], 1, [0, 4, 0], EVEN)
        self.check([(1, 0), None, (3, 1)], 1, [0, 3, 0])

    def test_the_next_number_whatever_letter_the_one_before_has(self):
        self.check([(1, 5), None, (5, 0)], 1, [0, 3, 0])
        self.check([(1, 26), None, (5, 0)], 1, [0, 3, 0])

    def test_the_next_letter_where_the_number_is_not_below(self):
        self.check([(1, 0), None, (3, 0)], 1, [0, 1, 1])
        self.check([(2, 4), None, (4, 0)], 1, [0, 2, 5], EVEN)
        self.check([(1, 25), None, (3, 0)], 1, [0, 1, 26])

    def test_the_nearest_with_a_plate_count(self):
        self.check([(1, 0), (5, 0), None, None, None, (9, 0), (7, 0)], 3, [0, 5, 1])
        self.check([(9, 0), (1, 0), None, None, (7, 0), (3, 5)], 2, [0, 3, 0])

    def test_a_letter_behind_26(self):
        self.check([(1, 26), None, (3, 0)], 1, [-33])

    def test_no_room_before_the_one_behind(self):
        self.check([(1, 0), None, (1, 1)], 1, [-33])
        self.check([(5, 0), None, (3, 0)], 1, [-33])
        self.check([(5, 3), None, (5, 4)], 1, [-33])
        self.check([(5, 3), None, (5, 5)], 1, [0, 5, 4])

    def test_before_all_others(self):
        self.check([None, (3, 0)], 0, [0, 1, 0])
        self.check([None, (1, 1)], 0, [0, 1, 0])
        self.check([None, (1, 0)], 0, [-33])
        self.check([None, (4, 0)], 0, [0, 2, 0], EVEN)
        self.check([None, (2, 1)], 0, [0, 2, 0], EVEN)
        self.check([None, (2, 0)], 0, [-33], EVEN)

    def test_before_all_others_the_least_is_somebodys(self):
        self.check([None, (5, 0), (1, 0)], 0, [-33])

    def test_the_number_is_somebodys_further_on(self):
        self.check([(1, 0), None, (9, 0), (3, 0)], 1, [0, 1, 1])

    def test_the_number_is_somebodys_further_back(self):
        self.check([(3, 0), (1, 0), None, (9, 0)], 2, [0, 1, 1])

    def test_number_and_letter_are_somebodys(self):
        self.check([(1, 0), None, (9, 0), (3, 0), (1, 1)], 1, [-33])
        self.check([(1, 1), (3, 0), (1, 0), None, (9, 0)], 3, [-33])

    def test_no_letter_but_the_next_is_tried(self):
        self.check([(1, 0), None, (1, 3), (1, 1)], 1, [-33])

    def test_behind_the_last_number(self):
        self.check([(999, 0), None], 1, [0, 999, 1])
        self.check([(998, 0), None], 1, [0, 998, 1], EVEN)
        self.check([(997, 0), None], 1, [0, 999, 0])
        self.check([(996, 0), None], 1, [0, 998, 0], EVEN)

    def test_behind_the_last_plate(self):
        self.check([(999, 26), None], 1, [-33])
        self.check([(998, 26), None], 1, [-33], EVEN)
        self.check([(999, 25), None], 1, [0, 999, 26])

    def test_the_other_sides_plates_do_not_count(self):
        calls = one_street() + side_with([(1, 0), None]) + side_with([(2, 0), (4, 0)], EVEN, 2)
        self.assertEqual(last(calls + [("between", 1)]), [0, 3, 0])

    def test_the_same_metre_on_another_street_does_not_count(self):
        calls = one_street() + [("street", 2, 50), ("house", 1, 0, 5), ("plate", 0, 1, 0), ("house", 0, 0, 6)]
        self.assertEqual(last(calls + [("between", 1)]), [0, 1, 0])

    def test_a_house_that_has_a_plate(self):
        self.check([(1, 0), (3, 0)], 1, [-17])
        self.check([(1, 26), (3, 5), (3, 0)], 1, [-17])

    def test_a_house_pulled_down_does_not_count(self):
        calls = one_street() + side_with([(1, 0), None, (3, 0)]) + [("pull", 2)]
        self.assertEqual(last(calls + [("between", 1)]), [0, 3, 0])


if __name__ == "__main__":
    unittest.main()
