"""Point 1: begin, street, rename, house, pull; and what the document says ahead of it."""

import unittest

from tests.helper import ARGUMENTS, EVEN, MOST, NAMES, ODD, last, one_street, run, side_with, tail


class BeforeBegin(unittest.TestCase):
    def test_every_other_call_is_refused(self):
        for name in NAMES[1:]:
            for number in (0, 1, MOST):
                with self.subTest(name=name, number=number):
                    call = (name,) + (number,) * ARGUMENTS[name]
                    self.assertEqual(run([call, ("begin",)]), [[-11], [0]])

    def test_what_was_refused_has_not_begun_anything(self):
        told = run([("street", 1, 100), ("begin",), ("order", 0, 0), ("street", 1, 100)])
        self.assertEqual(told, [[-11], [0], [-2], [0]])

    def test_after_begin_none_is_refused_so(self):
        for name in NAMES[1:]:
            with self.subTest(name=name):
                self.assertNotEqual(last([("begin",), (name,) + (0,) * ARGUMENTS[name]]), [-11])


class NoneSuchComesFirst(unittest.TestCase):
    """-2 is answered even where every other argument is wrong, too."""

    def test_no_such_street(self):
        for call in (
            ("rename", 1, 0), ("rename", 1, 1), ("rename", MOST, MOST), ("house", 1, 2, 5000), ("house", 1, 0, 5),
            ("house", MOST, MOST, MOST), ("anew", 1), ("anew", MOST), ("order", 1, 2), ("order", 1, 0),
            ("right", 1), ("right", MOST), ("fewest", 1, 2), ("fewest", MOST, 0), ("mend", 1, 2), ("mend", MOST, 0),
            ("find", 2, 1, 0), ("find", 2, 0, 27), ("find", 0, 1, 0), ("find", 1000, 1, 0), ("find", MOST, MOST, MOST),
            ("closest", 1, 5), ("closest", 1, 100), ("closest", MOST, MOST), ("join", 0, 1), ("join", 1, 0),
            ("join", 1, 1), ("join", MOST, MOST), ("cut", 1, 5, 2), ("cut", 1, 0, 0), ("cut", 1, 5, 1),
            ("cut", MOST, MOST, MOST), ("count", 1), ("count", MOST), ("free", 1, 0), ("free", 1, 2), ("free", MOST, MOST),
            ("bare", 1), ("bare", MOST),
        ):
            with self.subTest(call=call):
                self.assertEqual(last(one_street(100) + [("house", 0, 0, 5), call]), [-2])

    def test_no_such_house(self):
        for call in (
            ("pull", 1), ("pull", MOST), ("plate", 1, 0, 0), ("plate", 1, 1, 27), ("plate", 1, 2, 0),
            ("plate", 1, 1, 0), ("plate", MOST, MOST, MOST), ("unplate", 1), ("between", 1), ("between", MOST),
            ("opposite", 1), ("opposite", MOST), ("next", 1), ("next", MOST), ("walk", 0, 1), ("walk", 1, 0),
            ("walk", 1, 1), ("walk", 0, MOST), ("walk", MOST, MOST), ("look", 1), ("look", MOST),
        ):
            with self.subTest(call=call):
                self.assertEqual(last(one_street() + [("house", 0, 0, 5), ("plate", 0, 1, 0), call]), [-2])

    def test_a_house_pulled_down_is_none_any_more(self):
        calls = one_street() + [("house", 0, 0, 5), ("plate", 0, 1, 0), ("pull", 0)]
        further = [
            ("pull", 0), ("plate", 0, 3, 0), ("plate", 0, 0, 99), ("unplate", 0), ("between", 0), ("opposite", 0),
            ("next", 0), ("walk", 0, 0), ("look", 0),
        ]
        self.assertEqual(tail(calls, further), [[-2]] * len(further))


class Begin(unittest.TestCase):
    def test_answers_0(self):
        self.assertEqual(run([("begin",), ("begin",)]), [[0], [0]])

    def test_begun_anew_there_is_nothing(self):
        calls = [("begin",)] + [("street", name, 50) for name in range(1, 7)]
        calls += [("house", street, side, 5) for street in range(6) for side in (ODD, EVEN)]
        told = tail(calls + [("begin",)], [
            ("order", 0, 0), ("pull", 0), ("street", 1, 20), ("house", 0, 0, 5), ("house", 0, 0, 20), ("order", 0, 0),
        ])
        self.assertEqual(told, [[-2], [-2], [0], [0], [-22], [1, 0]])

    def test_begun_anew_every_call_answers_as_if_for_the_first_time(self):
        before = one_street() + [("street", 2, 50)] + side_with([(1, 0), None]) + [("cut", 0, 9, 3), ("join", 1, 2)]
        again = [("begin",), ("street", 1, 100), ("street", 2, 50), ("house", 0, 0, 5), ("house", 0, 1, 7)]
        for ahead in ([("begin",)], again):
            for name in NAMES:
                for number in (0, 1, 2, 7, MOST):
                    further = ahead + [(name,) + (number,) * ARGUMENTS[name], ("streets",), ("state",), ("count", 0)]
                    with self.subTest(name=name, number=number):
                        self.assertEqual(tail(before, further), run(further))

    def test_begun_anew_nothing_is_told_any_more(self):
        before = one_street() + side_with([(1, 0), None]) + [("begin",)]
        further = [
            ("streets",), ("state",), ("look", 0), ("find", 1, 1, 0), ("opposite", 0), ("next", 0), ("closest", 0, 5),
            ("walk", 0, 1), ("join", 0, 0), ("cut", 0, 5, 2), ("count", 0), ("free", 0, 0), ("bare", 0),
        ]
        self.assertEqual(tail(before, further), [[0], [0, 0, 0]] + [[-2]] * 11)

    def test_begun_anew_40_houses_may_be_built_again(self):
        forty = [("begin",), ("street", 1, 50), ("street", 2, 50)]
        forty += [("house", street, side, metre) for street in (0, 1) for side in (0, 1) for metre in range(10)]
        self.assertEqual(run(forty + forty)[-1], [39])


class Street(unittest.TestCase):
    def test_numbered_from_0(self):
        told = run([("begin",)] + [("street", name, 100) for name in (7, 3, 999)])
        self.assertEqual(told[1:], [[0], [1], [2]])

    def test_bounds_of_the_name(self):
        for name, answer in ((0, -22), (1, 0), (999, 0), (1000, -22), (MOST, -22)):
            with self.subTest(name=name):
                self.assertEqual(last([("begin",), ("street", name, 100)]), [answer])

    def test_bounds_of_the_metres(self):
        for metres, answer in ((0, -22), (9, -22), (10, 0), (2000, 0), (2001, -22), (MOST, -22)):
            with self.subTest(metres=metres):
                self.assertEqual(last([("begin",), ("street", 1, metres)]), [answer])

    def test_a_name_that_a_street_has(self):
        self.assertEqual(last(one_street() + [("street", 1, 100)]), [-17])

    def test_a_name_that_was_a_streets(self):
        self.assertEqual(tail(one_street(), [("rename", 0, 2), ("street", 1, 100), ("street", 2, 100)]), [[1], [1], [-17]])

    def test_out_of_range_before_so_already(self):
        self.assertEqual(last(one_street() + [("street", 1, 9)]), [-22])

    def test_six_and_no_more(self):
        six = [("begin",)] + [("street", name, 100) for name in range(1, 7)]
        self.assertEqual(run(six)[1:], [[0], [1], [2], [3], [4], [5]])
        self.assertEqual(last(six + [("street", 7, 100)]), [-28])

    def test_too_many_before_all_else(self):
        six = [("begin",)] + [("street", name, 100) for name in range(1, 7)]
        for call in (("street", 0, 100), ("street", 7, 9), ("street", 1, 100), ("street", MOST, MOST)):
            with self.subTest(call=call):
                self.assertEqual(last(six + [call]), [-28])

    def test_what_is_refused_takes_no_number(self):
        self.assertEqual(tail(one_street(), [("street", 1, 50), ("street", 0, 50), ("street", 2, 50)]), [[-17], [-22], [1]])


class Rename(unittest.TestCase):
    def test_answers_the_name_that_it_was(self):
        told = tail([("begin",), ("street", 40, 100)], [("rename", 0, 41), ("rename", 0, 42), ("rename", 0, 40)])
        self.assertEqual(told, [[40], [41], [42]])

    def test_bounds_of_the_name(self):
        for name, answer in ((0, -22), (2, 1), (999, 1), (1000, -22), (MOST, -22)):
            with self.subTest(name=name):
                self.assertEqual(last(one_street() + [("rename", 0, name)]), [answer])

    def test_a_name_that_a_street_has(self):
        self.assertEqual(last(one_street() + [("street", 2, 50), ("rename", 0, 2)]), [-17])

    def test_its_own_name_is_a_streets_too(self):
        self.assertEqual(last(one_street() + [("rename", 0, 1)]), [-17])

    def test_a_name_that_was_a_streets(self):
        calls = one_street() + [("street", 2, 50), ("rename", 0, 3)]
        self.assertEqual(tail(calls, [("rename", 1, 1), ("rename", 0, 2)]), [[2], [3]])

    def test_the_houses_stay(self):
        calls = one_street() + side_with([(5, 0), (1, 0)])
        self.assertEqual(tail(calls, [("rename", 0, 9), ("order", 0, ODD), ("right", 0)]), [[1], [2, 0, 1], [0, 1]])


class House(unittest.TestCase):
    def test_numbered_from_0_over_all_streets(self):
        calls = one_street() + [("street", 2, 100)]
        told = tail(calls, [("house", 0, 0, 5), ("house", 1, 0, 5), ("house", 0, 1, 5), ("house", 0, 0, 6)])
        self.assertEqual(told, [[0], [1], [2], [3]])

    def test_bounds_of_the_side(self):
        for side, answer in ((0, 0), (1, 0), (2, -22), (MOST, -22)):
            with self.subTest(side=side):
                self.assertEqual(last(one_street() + [("house", 0, side, 5)]), [answer])

    def test_bounds_of_the_metre(self):
        for metres in (10, 11, 2000):
            for metre, answer in ((0, 0), (metres - 1, 0), (metres, -22), (metres + 1, -22), (MOST, -22)):
                with self.subTest(metres=metres, metre=metre):
                    self.assertEqual(last(one_street(metres) + [("house", 0, 0, metre)]), [answer])

    def test_each_street_has_its_own_metres(self):
        calls = one_street(10) + [("street", 2, 20)]
        self.assertEqual(tail(calls, [("house", 0, 0, 15), ("house", 1, 0, 15)]), [[-22], [0]])

    def test_a_place_where_a_house_is(self):
        calls = one_street() + [("street", 2, 50), ("house", 0, 0, 5)]
        told = tail(calls, [("house", 0, 0, 5), ("house", 0, 1, 5), ("house", 1, 0, 5), ("house", 0, 0, 6)])
        self.assertEqual(told, [[-17], [1], [2], [3]])

    def test_a_place_where_a_house_was(self):
        calls = one_street() + [("house", 0, 0, 5), ("pull", 0)]
        self.assertEqual(tail(calls, [("house", 0, 0, 5), ("order", 0, 0)]), [[1], [1, 1]])

    def test_ten_on_a_side_and_no_more(self):
        ten = one_street() + side_with([None] * 10)
        self.assertEqual(run(ten)[-1], [9])
        told = tail(ten, [("house", 0, 0, 500), ("house", 0, 1, 500), ("pull", 3), ("house", 0, 0, 500)])
        self.assertEqual(told, [[-28], [10], [0, 0, 0], [11]])

    def test_ten_on_a_side_of_each_street(self):
        ten = one_street() + [("street", 2, 50)] + side_with([None] * 10)
        self.assertEqual(last(ten + [("house", 1, 0, 5)]), [10])

    def forty(self):
        calls = one_street() + [("street", 2, 50), ("street", 3, 50)]
        return calls + [("house", street, side, metre) for street in (0, 1) for side in (0, 1) for metre in range(10)]

    def test_forty_and_no_more(self):
        self.assertEqual(last(self.forty()), [39])
        self.assertEqual(last(self.forty() + [("house", 2, 0, 5)]), [-28])

    def test_forty_ever_even_if_some_were_pulled_down(self):
        calls = self.forty() + [("pull", house) for house in range(40)]
        self.assertEqual(last(calls + [("house", 2, 0, 5)]), [-28])

    def test_out_of_range_before_all_else(self):
        for call in (("house", 0, 2, 5), ("house", 0, 0, 2000), ("house", 2, 0, 50), ("house", 2, 2, 50)):
            with self.subTest(call=call):
                self.assertEqual(last(self.forty() + [call]), [-22])

    def test_so_already_before_too_many(self):
        self.assertEqual(last(self.forty() + [("house", 0, 0, 5)]), [-17])
        ten = one_street() + side_with([None] * 10)
        self.assertEqual(last(ten + [("house", 0, 0, 5)]), [-17])

    def test_it_has_no_plate(self):
        self.assertEqual(tail(one_street(), [("house", 0, 0, 5), ("unplate", 0), ("pull", 0)]), [[0], [-6], [0, 0, 0]])


class Pull(unittest.TestCase):
    def test_answers_the_plate_that_it_had(self):
        calls = one_street() + side_with([(7, 3), None])
        self.assertEqual(tail(calls, [("pull", 0), ("pull", 1)]), [[0, 7, 3], [0, 0, 0]])

    def test_it_is_on_its_side_no_more(self):
        calls = one_street() + side_with([(7, 0), (5, 0), (9, 0)])
        told = tail(calls, [("right", 0), ("pull", 0), ("order", 0, 0), ("right", 0), ("fewest", 0, 0), ("anew", 0)])
        self.assertEqual(told, [[0, 1], [0, 7, 0], [2, 1, 2], [1], [0, 1, 2], [2]])

    def test_its_plate_is_free_again(self):
        calls = one_street() + side_with([(7, 0), None])
        self.assertEqual(tail(calls, [("plate", 1, 7, 0), ("pull", 0), ("plate", 1, 7, 0)]), [[-17], [0, 7, 0], [0, 0, 0]])

    def test_its_number_is_not_given_again(self):
        calls = one_street() + side_with([None, None])
        self.assertEqual(tail(calls, [("pull", 1), ("house", 0, 0, 15)]), [[0, 0, 0], [2]])


if __name__ == "__main__":
    unittest.main()
