"""Point 7: join, cut; and e, cut and joined again."""

import unittest

from tests.helper import EVEN, MOST, ODD, last, one_street, seen, side_with, tail

SIX = [("begin",)] + [("street", name, 100) for name in range(1, 7)]


def houses_of(street, side, count, first=0):
    """Calls that build so many houses on a side, at the metres from first on."""
    return [("house", street, side, first + place) for place in range(count)]


class Join(unittest.TestCase):
    def two(self, metres=100, others=50):
        return one_street(metres) + [("street", 2, others)]

    def test_answers_metres_and_plates_that_went(self):
        self.assertEqual(tail(self.two(), [("join", 0, 1), ("streets",)]), [[150, 0], [1, 1, 150, 0, 0]])
        self.assertEqual(tail(self.two(), [("join", 1, 0), ("streets",)]), [[150, 0], [1, 0, 0, 2, 150]])

    def test_a_street_with_itself(self):
        self.assertEqual(tail(self.two(), [("join", 0, 0), ("join", 1, 1), ("streets",)]), [[-22], [-22], [2, 1, 100, 2, 50]])

    def test_with_itself_before_too_many(self):
        self.assertEqual(last(one_street(1001) + [("join", 0, 0)]), [-22])
        self.assertEqual(last(one_street() + houses_of(0, 0, 6) + [("join", 0, 0)]), [-22])

    def test_no_such_street_before_all_else(self):
        calls = self.two(2000, 2000) + houses_of(0, 0, 10)
        further = [("join", 0, 2), ("join", 2, 0), ("join", 2, 2), ("join", 0, MOST), ("join", MOST, 0), ("join", MOST, MOST)]
        self.assertEqual(tail(calls, further), [[-2]] * 6)

    def test_just_2000_metres_and_one_more(self):
        self.assertEqual(last(self.two(1990, 10) + [("join", 0, 1)]), [2000, 0])
        self.assertEqual(last(self.two(1990, 10) + [("join", 1, 0)]), [2000, 0])
        for one, other in ((1991, 10), (10, 1991), (1000, 1001), (2000, 2000), (1990, 11)):
            with self.subTest(one=one, other=other):
                self.assertEqual(last(self.two(one, other) + [("join", 0, 1)]), [-28])

    def test_just_2000_metres_with_a_part_that_a_cut_left(self):
        calls = self.two(2000, 50) + [("cut", 1, 1, 3)]
        self.assertEqual(last(calls + [("join", 0, 1)]), [-28])
        self.assertEqual(last(calls + [("cut", 0, 1999, 4), ("join", 0, 1)]), [2000, 0])

    def test_just_10_houses_on_a_side_and_one_more(self):
        for side in (ODD, EVEN):
            for one, other, answer in (
                (5, 5, [150, 0]), (10, 0, [150, 0]), (0, 10, [150, 0]), (5, 6, [-28]), (10, 1, [-28]), (1, 10, [-28]),
                (10, 10, [-28]),
            ):
                with self.subTest(side=side, one=one, other=other):
                    calls = self.two() + houses_of(0, side, one) + houses_of(1, side, other)
                    self.assertEqual(last(calls + [("join", 0, 1)]), answer)

    def test_10_on_each_side(self):
        calls = self.two() + houses_of(0, 0, 10) + houses_of(1, 1, 10)
        self.assertEqual(tail(calls, [("join", 0, 1), ("count", 0)]), [[150, 0], [20, 10, 10, 0]])
        calls = self.two() + houses_of(0, 0, 4) + houses_of(1, 0, 6) + houses_of(0, 1, 7) + houses_of(1, 1, 3)
        self.assertEqual(tail(calls, [("join", 0, 1), ("count", 0), ("house", 0, 0, 99), ("house", 0, 1, 99)]),
                         [[150, 0], [20, 10, 10, 0], [-28], [-28]])

    def test_houses_pulled_down_do_not_count(self):
        calls = self.two() + houses_of(0, 0, 10) + houses_of(1, 0, 1)
        self.assertEqual(tail(calls, [("join", 0, 1), ("pull", 3), ("join", 0, 1)]), [[-28], [0, 0, 0], [150, 0]])

    def test_metres_and_houses_are_behind_its_own(self):
        calls = self.two(100, 50) + [
            ("house", 0, 0, 99), ("house", 1, 0, 0), ("house", 1, 0, 49), ("house", 0, 1, 0), ("house", 1, 1, 20),
        ]
        told = tail(calls, [("join", 0, 1)] + [("look", house) for house in range(5)] + [("order", 0, 0), ("order", 0, 1)])
        self.assertEqual(told, [
            [150, 0], [0, 0, 99, 0, 0], [0, 0, 100, 0, 0], [0, 0, 149, 0, 0], [0, 1, 0, 0, 0], [0, 1, 120, 0, 0],
            [3, 0, 1, 2], [2, 3, 4],
        ])
        told = tail(calls, [("join", 1, 0)] + [("look", house) for house in range(5)] + [("order", 1, 0), ("order", 1, 1)])
        self.assertEqual(told, [
            [150, 0], [1, 0, 149, 0, 0], [1, 0, 0, 0, 0], [1, 0, 49, 0, 0], [1, 1, 50, 0, 0], [1, 1, 20, 0, 0],
            [3, 1, 2, 0], [2, 4, 3],
        ])

    def test_the_joined_metres_may_be_built_upon(self):
        told = tail(self.two() + [("join", 0, 1)], [("house", 0, 0, 100), ("house", 0, 0, 149), ("house", 0, 0, 150)])
        self.assertEqual(told, [[0], [1], [-22]])

    def check_plates(self, one, other, side, went, kept):
        """Joined, the first street's plates stay as they are, and the other's are the kept ones."""
        calls = self.two() + side_with(one, side, 0, 0) + side_with(other, side, len(one), 1) + [("join", 0, 1)]
        self.assertEqual(last(calls), [150, went])
        plates = [house[3:] for house in seen(calls).houses.values()]
        self.assertEqual(plates, [plate or (0, 0) for plate in one + kept])

    def test_plates_that_the_side_has_already(self):
        self.check_plates([(1, 0), (3, 0)], [(1, 0), (5, 0)], ODD, 1, [None, (5, 0)])
        self.check_plates([(2, 0), (4, 0)], [(4, 0), (2, 0)], EVEN, 2, [None, None])
        self.check_plates([(1, 0)], [(3, 0)], ODD, 0, [(3, 0)])

    def test_plates_with_letters_that_the_side_has_already(self):
        self.check_plates([(1, 1), (3, 26)], [(1, 1), (3, 26)], ODD, 2, [None, None])
        self.check_plates([(1, 1), (3, 0)], [(1, 0), (3, 26), (1, 2), (1, 1)], ODD, 1, [(1, 0), (3, 26), (1, 2), None])
        self.check_plates([(998, 26)], [(998, 26), (998, 25)], EVEN, 1, [None, (998, 25)])

    def test_houses_without_plates_lose_none(self):
        self.check_plates([None, (1, 0)], [None, None, (1, 0)], ODD, 1, [None, None, None])
        self.check_plates([None], [None], EVEN, 0, [None])

    def test_plates_go_on_both_sides(self):
        calls = self.two() + side_with([(1, 0), (3, 0)], 0, 0, 0) + side_with([(2, 5)], 1, 2, 0)
        calls += side_with([(3, 0), (1, 0)], 0, 3, 1) + side_with([(2, 5), (2, 0)], 1, 5, 1)
        self.assertEqual(tail(calls, [("join", 0, 1), ("bare", 0), ("count", 0)]), [[150, 3], [3, 3, 4, 5], [7, 4, 3, 4]])

    def test_every_plate_goes(self):
        plates = [(2 * place + 1, place) for place in range(5)]
        self.check_plates(plates, list(plates), ODD, 5, [None] * 5)

    def test_only_the_two_streets_plates_count(self):
        calls = self.two() + [("street", 3, 50)] + side_with([(1, 0)], 0, 0, 1) + side_with([(1, 0)], 0, 1, 2)
        self.assertEqual(tail(calls, [("join", 0, 1), ("look", 0), ("look", 1)]),
                         [[150, 0], [0, 0, 105, 1, 0], [2, 0, 5, 1, 0]])

    def test_the_plate_of_one_pulled_down_does_not_count(self):
        calls = self.two() + side_with([(1, 0)], 0, 0, 0) + side_with([(1, 0), (3, 0)], 0, 1, 1) + [("pull", 0), ("pull", 2)]
        self.assertEqual(tail(calls, [("join", 0, 1), ("look", 1)]), [[150, 0], [0, 0, 105, 1, 0]])

    def test_the_joined_street_in_every_call_afterwards(self):
        calls = self.two() + [("house", 0, 0, 5), ("house", 1, 0, 5), ("plate", 1, 1, 0), ("join", 0, 1)]
        further = [
            ("rename", 1, 9), ("rename", 1, 0), ("house", 1, 0, 7), ("house", 1, 2, 9999), ("anew", 1), ("order", 1, 0),
            ("order", 1, 2), ("right", 1), ("fewest", 1, 0), ("fewest", 1, 2), ("mend", 1, 0), ("mend", 1, 2),
            ("find", 2, 1, 0), ("find", 2, 0, 27), ("find", 0, 1, 0), ("closest", 1, 0), ("closest", 1, 9999),
            ("join", 0, 1), ("join", 1, 0), ("join", 1, 1), ("cut", 1, 5, 9), ("cut", 1, 0, 0), ("count", 1),
            ("free", 1, 0), ("free", 1, 2), ("bare", 1),
        ]
        before = seen(calls)
        for call in further:
            with self.subTest(call=call):
                self.assertEqual(last(calls + [call]), [-2])
                self.assertEqual(seen(calls + [call]), before)

    def test_its_name_given_to_another_one(self):
        calls = self.two() + [("house", 1, 0, 5), ("plate", 0, 1, 0), ("join", 0, 1)]
        told = tail(calls, [("street", 2, 30), ("streets",), ("find", 2, 1, 0), ("find", 1, 1, 0), ("street", 2, 30)])
        self.assertEqual(told, [[2], [2, 1, 150, 0, 0, 2, 30], [-33], [0, 0, 105], [-17]])
        told = tail(calls, [("rename", 0, 2), ("streets",), ("find", 2, 1, 0), ("find", 1, 1, 0)])
        self.assertEqual(told, [[1], [1, 2, 150, 0, 0], [0, 0, 105], [-2]])
        told = tail(calls, [("cut", 0, 100, 2), ("streets",), ("find", 2, 1, 0)])
        self.assertEqual(told, [[2, 50], [2, 1, 100, 0, 0, 2, 50], [0, 0, 5]])

    def test_it_counts_among_the_six(self):
        self.assertEqual(tail(SIX, [("join", 0, 5), ("street", 9, 100), ("cut", 0, 5, 9)]), [[200, 0], [-28], [-28]])

    def test_joined_one_behind_another(self):
        calls = SIX + [("house", street, 0, 7) for street in range(6)]
        told = tail(calls, [("join", 4, 5), ("join", 0, 4), ("join", 2, 0), ("order", 2, 0), ("look", 5), ("streets",)])
        self.assertEqual(told, [[200, 0], [300, 0], [400, 0], [4, 2, 0, 4, 5], [2, 0, 307, 0, 0],
                                [3, 0, 0, 2, 100, 3, 400, 4, 100, 0, 0, 0, 0]])

    def test_the_calls_of_the_earlier_points_take_the_joined_street_whole(self):
        calls = self.two() + side_with([(5, 0), (7, 0)], 0, 0, 0) + side_with([(3, 0), (7, 0), None], 0, 2, 1) + [("join", 0, 1)]
        told = tail(calls, [("right", 0), ("fewest", 0, 0), ("between", 3), ("plate", 3, 5, 0), ("anew", 0), ("right", 0)])
        self.assertEqual(told, [[0, 2], [1, 0, 1], [0, 3, 1], [-17], [5], [1]])
        self.assertEqual(tail(calls, [("mend", 0, 0), ("look", 2), ("right", 0)]), [[1], [0, 0, 105, 7, 1], [1]])


class Cut(unittest.TestCase):
    def test_answers_the_number_and_the_metres(self):
        self.assertEqual(tail(one_street(100), [("cut", 0, 30, 2), ("streets",)]), [[1, 70], [2, 1, 30, 2, 70]])

    def test_bounds_of_the_metre(self):
        for metres in (10, 100, 2000):
            for metre, answer in (
                (0, [-22]), (1, [1, metres - 1]), (metres - 1, [1, 1]), (metres, [-22]), (metres + 1, [-22]), (MOST, [-22]),
            ):
                with self.subTest(metres=metres, metre=metre):
                    self.assertEqual(last(one_street(metres) + [("cut", 0, metre, 2)]), answer)

    def test_bounds_of_the_name(self):
        for name, answer in ((0, [-22]), (2, [1, 95]), (999, [1, 95]), (1000, [-22]), (MOST, [-22])):
            with self.subTest(name=name):
                self.assertEqual(last(one_street(100) + [("cut", 0, 5, name)]), answer)
        self.assertEqual(last([("begin",), ("street", 2, 100), ("cut", 0, 5, 1)]), [1, 95])

    def test_a_name_that_a_street_has(self):
        calls = one_street(100) + [("street", 2, 50)]
        self.assertEqual(tail(calls, [("cut", 0, 5, 2), ("cut", 0, 5, 1)]), [[-17], [-17]])

    def test_a_name_that_was_a_streets(self):
        self.assertEqual(tail(one_street(100), [("rename", 0, 2), ("cut", 0, 5, 2), ("cut", 0, 5, 1)]), [[1], [-17], [1, 95]])

    def test_six_streets_already(self):
        self.assertEqual(last(SIX + [("cut", 0, 5, 7)]), [-28])
        self.assertEqual(last(SIX[:-1] + [("cut", 0, 5, 7)]), [5, 95])
        self.assertEqual(tail(SIX[:-1] + [("cut", 0, 5, 7)], [("street", 8, 100), ("cut", 1, 5, 8)]), [[-28], [-28]])

    def test_six_cuts(self):
        calls = one_street(100) + [("cut", street, 10, street + 2) for street in range(5)]
        told = tail(calls, [("streets",), ("cut", 5, 10, 7), ("state",)])
        self.assertEqual(told, [[6, 1, 10, 2, 10, 3, 10, 4, 10, 5, 10, 6, 50], [-28], [6, 0, 0]])

    def test_the_order_of_refusals(self):
        # Each one is due together with all that are told behind it.
        self.assertEqual(last(SIX + [("cut", 6, 0, 0)]), [-2])
        self.assertEqual(last(SIX + [("cut", 6, 5, 1)]), [-2])
        self.assertEqual(last(SIX + [("cut", 0, 0, 1)]), [-22])
        self.assertEqual(last(SIX + [("cut", 0, 100, 1)]), [-22])
        self.assertEqual(last(SIX + [("cut", 0, 5, 0)]), [-22])
        self.assertEqual(last(SIX + [("cut", 0, 5, 1000)]), [-22])
        self.assertEqual(last(SIX + [("cut", 0, 5, 1)]), [-17])
        self.assertEqual(last(SIX + [("cut", 0, 5, 6)]), [-17])
        self.assertEqual(last(SIX + [("cut", 0, 5, 7)]), [-28])

    def town(self):
        """One street of 100 metres, houses 0 to 3 odd at 0, 29, 30, 99 and 4, 5 even at 31, 30, some with plates."""
        calls = one_street(100) + [("house", 0, 0, metre) for metre in (0, 29, 30, 99)]
        calls += [("house", 0, 1, 31), ("house", 0, 1, 30)]
        return calls + [("plate", 0, 9, 0), ("plate", 2, 5, 3), ("plate", 4, 998, 26)]

    def test_just_at_a_house(self):
        self.assertEqual(seen(self.town() + [("cut", 0, 30, 2)]).houses, {
            0: (0, 0, 0, 9, 0), 1: (0, 0, 29, 0, 0), 2: (1, 0, 0, 5, 3), 3: (1, 0, 69, 0, 0), 4: (1, 1, 1, 998, 26),
            5: (1, 1, 0, 0, 0),
        })

    def test_just_behind_a_house(self):
        self.assertEqual(seen(self.town() + [("cut", 0, 31, 2)]).houses, {
            0: (0, 0, 0, 9, 0), 1: (0, 0, 29, 0, 0), 2: (0, 0, 30, 5, 3), 3: (1, 0, 68, 0, 0), 4: (1, 1, 0, 998, 26),
            5: (0, 1, 30, 0, 0),
        })

    def test_at_the_first_and_the_last_metre(self):
        streets = {house: place[0] for house, place in seen(self.town() + [("cut", 0, 1, 2)]).houses.items()}
        self.assertEqual(streets, {0: 0, 1: 1, 2: 1, 3: 1, 4: 1, 5: 1})
        self.assertEqual(seen(self.town() + [("cut", 0, 99, 2)]).houses[3], (1, 0, 0, 0, 0))
        self.assertEqual(seen(self.town() + [("cut", 0, 99, 2)]).houses[4], (0, 1, 31, 998, 26))

    def test_both_parts_are_told_by_the_other_calls(self):
        told = tail(self.town() + [("cut", 0, 30, 2)], [
            ("order", 0, 0), ("order", 0, 1), ("order", 1, 0), ("order", 1, 1), ("find", 1, 5, 3), ("find", 2, 5, 3),
            ("walk", 0, 2), ("walk", 2, 3), ("closest", 1, 2), ("plate", 3, 9, 0), ("plate", 1, 5, 3),
        ])
        self.assertEqual(told, [[2, 0, 1], [0], [2, 2, 3], [2, 5, 4], [-33], [2, 0, 0], [-16], [69], [4, 1, 1], [0, 0, 0],
                                [0, 0, 0]])

    def test_other_streets_stay_as_they_are(self):
        calls = one_street(100) + [("street", 2, 100), ("house", 1, 0, 50), ("house", 0, 0, 50), ("plate", 0, 7, 0)]
        self.assertEqual(tail(calls, [("cut", 0, 20, 3), ("look", 0), ("look", 1), ("streets",)]),
                         [[2, 80], [1, 0, 50, 7, 0], [2, 0, 30, 0, 0], [3, 1, 20, 2, 100, 3, 80]])

    def test_a_part_of_fewer_than_10_metres_and_a_house_built_there(self):
        told = tail(one_street(12), [
            ("cut", 0, 9, 2), ("streets",), ("house", 1, 0, 2), ("house", 1, 0, 3), ("house", 1, 1, 0), ("house", 0, 0, 8),
            ("house", 0, 0, 9), ("closest", 1, 2), ("closest", 1, 3), ("anew", 1),
        ])
        self.assertEqual(told, [[1, 3], [2, 1, 9, 2, 3], [0], [-22], [1], [2], [-22], [0, 0, 0], [-22], [2]])

    def test_a_part_of_one_metre(self):
        calls = one_street(10) + [("cut", 0, 9, 2)]
        told = tail(calls, [("house", 1, 0, 0), ("house", 1, 0, 0), ("house", 1, 1, 0), ("house", 1, 0, 1),
                            ("cut", 1, 0, 3), ("cut", 1, 1, 3), ("cut", 0, 1, 3), ("house", 0, 0, 0), ("house", 0, 0, 1)])
        self.assertEqual(told, [[0], [-17], [1], [-22], [-22], [-22], [2, 8], [2], [-22]])

    def test_ten_may_be_built_on_a_side_of_each_part(self):
        calls = one_street(40) + houses_of(0, 0, 10, 15) + [("cut", 0, 20, 2)]
        told = tail(calls, houses_of(0, 0, 5) + [("house", 0, 0, 9)] + houses_of(1, 0, 5, 10) + [("house", 1, 0, 18)])
        self.assertEqual(told, [[10], [11], [12], [13], [14], [-28], [15], [16], [17], [18], [19], [-28]])


class CutAndJoinedAgain(unittest.TestCase):
    """e: all stand where they stood, with the plates that they had."""

    def town(self):
        calls = one_street(20) + [("street", 2, 30)]
        calls += [("house", 0, 0, metre) for metre in (0, 7, 10, 11, 19)] + [("house", 0, 1, metre) for metre in (19, 0, 9)]
        calls += [("plate", 0, 9, 0), ("plate", 1, 1, 1), ("plate", 3, 1, 0), ("plate", 4, 9, 26), ("plate", 6, 2, 0)]
        return calls + [("house", 1, 0, 3), ("plate", 8, 9, 0), ("pull", 2)]

    def test_at_every_metre(self):
        before = seen(self.town())
        for metre in range(1, 20):
            with self.subTest(metre=metre):
                calls = self.town() + [("cut", 0, metre, 3), ("join", 0, 2)]
                self.assertEqual(tail(self.town(), calls[-2:]), [[2, 20 - metre], [20, 0]])
                after = seen(calls)
                self.assertEqual(after.houses, before.houses)
                self.assertEqual(after.streets, before.streets + [(0, 0)])

    def test_with_the_same_name_again(self):
        calls = self.town() + [("cut", 0, 5, 3), ("join", 0, 2), ("cut", 0, 12, 3), ("join", 0, 3)]
        self.assertEqual(seen(calls).houses, seen(self.town()).houses)

    def test_cut_twice_and_joined_from_behind_and_from_before(self):
        cuts = [("cut", 0, 10, 3), ("cut", 0, 4, 4), ("cut", 2, 1, 5)]
        for joins in (
            [("join", 2, 4), ("join", 3, 2), ("join", 0, 3)], [("join", 0, 3), ("join", 0, 2), ("join", 0, 4)],
        ):
            with self.subTest(joins=joins):
                self.assertEqual(seen(self.town() + cuts + joins).houses, seen(self.town()).houses)

    def test_ten_on_each_side_and_2000_metres(self):
        calls = one_street(2000) + side_with([(19 - 2 * place, 0) for place in range(10)])
        calls += side_with([(2, place) for place in range(10)], EVEN, 10)
        for metre in (1, 5, 6, 50, 95, 96, 1999):
            with self.subTest(metre=metre):
                again = calls + [("cut", 0, metre, 2), ("join", 0, 1)]
                self.assertEqual(last(again), [2000, 0])
                self.assertEqual(seen(again).houses, seen(calls).houses)


if __name__ == "__main__":
    unittest.main()
