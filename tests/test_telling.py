"""Point 8: count, free, streets, look, bare, state."""

import unittest

from tests.helper import EVEN, MOST, ODD, last, one_street, plate_of_rank, side_with, tail


def two_streets():
    """Street 0: houses 0 to 2 odd (5, none, 3a), 3 and 4 even (none, 2); street 1: houses 5 odd (5), 6 even (none)."""
    calls = one_street(100) + side_with([(5, 0), None, (3, 1)]) + side_with([None, (2, 0)], EVEN, 3)
    return calls + [("street", 2, 50), ("house", 1, 0, 40), ("plate", 5, 5, 0), ("house", 1, 1, 20)]


class Count(unittest.TestCase):
    def check(self, between, *answers):
        told = tail(two_streets() + between, [("count", street) for street in range(len(answers))])
        self.assertEqual(told, list(answers))

    def test_houses_odd_even_with_plates(self):
        self.check([], [5, 3, 2, 3], [2, 1, 1, 1], [-2])

    def test_a_street_without_houses(self):
        self.check([("street", 3, 10)], [5, 3, 2, 3], [2, 1, 1, 1], [0, 0, 0, 0], [-2])

    def test_one_side_alone(self):
        self.check([("pull", 5), ("pull", 3), ("pull", 4)], [3, 3, 0, 2], [1, 0, 1, 0])

    def test_after_pull(self):
        self.check([("pull", 0)], [4, 2, 2, 2], [2, 1, 1, 1])
        self.check([("pull", 1)], [4, 2, 2, 3], [2, 1, 1, 1])
        self.check([("pull", 4)], [4, 3, 1, 2], [2, 1, 1, 1])

    def test_after_plates_are_given_and_taken(self):
        self.check([("plate", 1, 7, 0), ("plate", 0, 9, 0)], [5, 3, 2, 4], [2, 1, 1, 1])
        self.check([("unplate", 4)], [5, 3, 2, 2], [2, 1, 1, 1])
        self.check([("anew", 0)], [5, 3, 2, 5], [2, 1, 1, 1])

    def test_after_join(self):
        # The plate 5 of house 5 goes: house 0 has it already.
        self.check([("join", 0, 1)], [7, 4, 3, 3], [-2])
        self.check([("join", 1, 0)], [-2], [7, 4, 3, 3])

    def test_after_cut(self):
        self.check([("cut", 0, 15, 3)], [2, 1, 1, 1], [2, 1, 1, 1], [3, 2, 1, 2])
        self.check([("cut", 0, 99, 3)], [5, 3, 2, 3], [2, 1, 1, 1], [0, 0, 0, 0])

    def test_ten_on_each_side(self):
        calls = one_street() + side_with([None] * 10) + side_with([None] * 10, EVEN, 10)
        self.assertEqual(tail(calls, [("count", 0), ("anew", 0), ("count", 0)]), [[20, 10, 10, 0], [20], [20, 10, 10, 20]])


class Free(unittest.TestCase):
    def check(self, plates, side, answer):
        self.assertEqual(last(one_street() + side_with(plates, side) + [("free", 0, side)]), [answer])

    def test_a_side_without_houses(self):
        self.check([], ODD, 1)
        self.check([], EVEN, 2)

    def test_a_side_without_plates(self):
        self.check([None, None], ODD, 1)
        self.check([None, None], EVEN, 2)

    def test_the_least_given_with_a_letter_only(self):
        self.check([(1, 1)], ODD, 1)
        self.check([(2, 26)], EVEN, 2)
        self.check([(1, 0), (3, 1), (5, 0)], ODD, 3)
        self.check([(1, 0), (1, 1), (3, 0), (3, 1)], ODD, 5)

    def test_the_lowest_given(self):
        self.check([(1, 0)], ODD, 3)
        self.check([(2, 0)], EVEN, 4)
        self.check([(5, 0), (1, 0), (3, 0)], ODD, 7)
        self.check([(1, 0), (3, 0), (7, 0), (9, 0)], ODD, 5)
        self.check([(4, 0), (6, 0)], EVEN, 2)

    def test_ten_given(self):
        self.check([(19 - 2 * place, 0) for place in range(10)], ODD, 21)
        self.check([(20 - 2 * place, 0) for place in range(10)], EVEN, 22)
        self.check([plate_of_rank(EVEN, place) for place in range(10)], EVEN, 4)

    def test_the_other_sides_and_streets_do_not_count(self):
        told = tail(two_streets() + [("plate", 5, 1, 0)], [("free", 0, 0), ("free", 0, 1), ("free", 1, 0), ("free", 1, 1)])
        self.assertEqual(told, [[1], [4], [3], [2]])

    def test_bounds_of_the_side(self):
        for side, answer in ((0, 1), (1, 2), (2, -22), (MOST, -22)):
            with self.subTest(side=side):
                self.assertEqual(last(one_street() + [("free", 0, side)]), [answer])

    def test_no_such_street_before_out_of_range(self):
        self.assertEqual(tail(one_street(), [("free", 1, 2), ("free", 1, 0), ("free", 0, 2)]), [[-2], [-2], [-22]])

    def test_after_pull_and_unplate(self):
        calls = one_street() + side_with([(1, 0), (3, 0), (5, 0)])
        told = tail(calls, [("free", 0, 0), ("pull", 1), ("free", 0, 0), ("unplate", 0), ("free", 0, 0)])
        self.assertEqual(told, [[7], [0, 3, 0], [3], [0, 1, 0], [1]])

    def test_after_join_and_cut(self):
        calls = one_street(100) + side_with([(1, 0), (3, 0)]) + [("cut", 0, 10, 2)]
        told = tail(calls, [("free", 0, 0), ("free", 1, 0), ("join", 1, 0), ("free", 1, 0), ("free", 0, 0)])
        self.assertEqual(told, [[3], [1], [100, 0], [5], [-2]])

    def test_it_changes_nothing(self):
        self.assertEqual(tail(two_streets(), [("free", 0, 0)] * 3), [[1]] * 3)


class Streets(unittest.TestCase):
    def check(self, between, answer):
        self.assertEqual(last(two_streets() + between + [("streets",)]), answer)

    def test_none(self):
        self.assertEqual(last([("begin",), ("streets",)]), [0])

    def test_names_and_metres(self):
        self.check([], [2, 1, 100, 2, 50])
        self.assertEqual(last([("begin",), ("street", 999, 2000), ("street", 5, 10), ("streets",)]), [2, 999, 2000, 5, 10])

    def test_six(self):
        six = [("begin",)] + [("street", name, 10 * name) for name in range(1, 7)]
        self.assertEqual(last(six + [("streets",)]), [6, 1, 10, 2, 20, 3, 30, 4, 40, 5, 50, 6, 60])

    def test_after_rename_and_pull(self):
        self.check([("rename", 1, 9), ("pull", 0)], [2, 1, 100, 9, 50])

    def test_after_join(self):
        self.check([("join", 0, 1)], [1, 1, 150, 0, 0])
        self.check([("join", 1, 0)], [1, 0, 0, 2, 150])

    def test_after_cut(self):
        self.check([("cut", 0, 30, 3)], [3, 1, 30, 2, 50, 3, 70])

    def test_after_cut_and_join(self):
        self.check([("cut", 0, 30, 3), ("join", 0, 2)], [2, 1, 100, 2, 50, 0, 0])
        self.check([("cut", 0, 30, 3), ("join", 1, 0), ("street", 1, 10)], [3, 0, 0, 2, 80, 3, 70, 1, 10])

    def test_all_joined_into_one(self):
        six = [("begin",)] + [("street", name, 10 * name) for name in range(1, 7)]
        joined = [("join", 3, street) for street in (0, 1, 2, 4, 5)]
        self.assertEqual(last(six + joined + [("streets",)]), [1, 0, 0, 0, 0, 0, 0, 4, 210, 0, 0, 0, 0])

    def test_what_is_refused_is_none(self):
        self.check([("street", 1, 10), ("street", 3, 9), ("cut", 0, 0, 3), ("join", 0, 0)], [2, 1, 100, 2, 50])


class Look(unittest.TestCase):
    def check(self, between, houses, *answers):
        self.assertEqual(tail(two_streets() + between, [("look", house) for house in houses]), list(answers))

    def test_street_side_metre_plate(self):
        self.check([], range(8), [0, 0, 5, 5, 0], [0, 0, 15, 0, 0], [0, 0, 25, 3, 1], [0, 1, 5, 0, 0], [0, 1, 15, 2, 0],
                   [1, 0, 40, 5, 0], [1, 1, 20, 0, 0], [-2])

    def test_after_pull(self):
        self.check([("pull", 0)], (0, 1), [-2], [0, 0, 15, 0, 0])

    def test_after_plates_are_given_and_taken(self):
        self.check([("plate", 0, 999, 26), ("unplate", 4)], (0, 4), [0, 0, 5, 999, 26], [0, 1, 15, 0, 0])

    def test_after_join(self):
        self.check([("join", 0, 1)], (0, 5, 6), [0, 0, 5, 5, 0], [0, 0, 140, 0, 0], [0, 1, 120, 0, 0])
        self.check([("join", 1, 0)], (0, 2, 5), [1, 0, 55, 0, 0], [1, 0, 75, 3, 1], [1, 0, 40, 5, 0])

    def test_after_cut(self):
        self.check([("cut", 0, 15, 3)], (0, 1, 2, 3, 4), [0, 0, 5, 5, 0], [2, 0, 0, 0, 0], [2, 0, 10, 3, 1],
                   [0, 1, 5, 0, 0], [2, 1, 0, 2, 0])

    def test_one_pulled_down_stays_so_through_join_and_cut(self):
        self.check([("pull", 5), ("join", 0, 1), ("cut", 0, 20, 3), ("join", 2, 0)], (5, 6), [-2], [2, 1, 100, 0, 0])


class Bare(unittest.TestCase):
    def check(self, between, *answers):
        told = tail(two_streets() + between, [("bare", street) for street in range(len(answers))])
        self.assertEqual(told, list(answers))

    def test_the_odd_side_then_the_even_one(self):
        self.check([], [2, 1, 3], [1, 6], [-2])
        self.check([("unplate", 0), ("unplate", 4)], [4, 0, 1, 3, 4], [1, 6])

    def test_in_order_not_by_house_numbers(self):
        calls = one_street() + [("house", 0, side, metre) for side, metre in ((1, 9), (0, 50), (1, 2), (0, 7), (0, 60))]
        self.assertEqual(last(calls + [("bare", 0)]), [5, 3, 1, 4, 2, 0])

    def test_none(self):
        self.check([("anew", 0), ("street", 3, 10)], [0], [1, 6], [0])

    def test_after_pull(self):
        self.check([("pull", 1), ("pull", 0)], [1, 3], [1, 6])

    def test_after_join(self):
        self.check([("join", 0, 1)], [4, 1, 5, 3, 6], [-2])
        self.check([("join", 1, 0)], [-2], [4, 0, 1, 6, 3])

    def test_after_cut(self):
        self.check([("cut", 0, 15, 3)], [1, 3], [1, 6], [1, 1])

    def test_twenty(self):
        calls = one_street() + side_with([None] * 10, EVEN) + side_with([None] * 10, ODD, 10)
        self.assertEqual(last(calls + [("bare", 0)]), [20] + list(range(10, 20)) + list(range(10)))


class State(unittest.TestCase):
    def check(self, between, answer):
        self.assertEqual(last(two_streets() + between + [("state",)]), answer)

    def test_nothing(self):
        self.assertEqual(last([("begin",), ("state",)]), [0, 0, 0])

    def test_streets_ever_houses_ever_houses_now(self):
        self.check([], [2, 7, 7])
        self.check([("street", 3, 10)], [3, 7, 7])

    def test_after_pull(self):
        self.check([("pull", 0), ("pull", 6)], [2, 7, 5])
        self.check([("pull", 0), ("house", 0, 0, 5)], [2, 8, 7])
        self.check([("pull", house) for house in range(7)], [2, 7, 0])

    def test_after_join_and_cut(self):
        self.check([("join", 0, 1)], [2, 7, 7])
        self.check([("cut", 0, 15, 3)], [3, 7, 7])
        self.check([("cut", 0, 15, 3), ("join", 0, 2), ("pull", 1)], [3, 7, 6])

    def test_what_is_refused_does_not_count(self):
        self.check([("street", 1, 10), ("house", 0, 0, 5), ("pull", 7), ("cut", 0, 15, 1), ("join", 0, 0)], [2, 7, 7])


if __name__ == "__main__":
    unittest.main()
