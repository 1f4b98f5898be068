"""What holds: a, b, c and f over longer lists of calls, and c held against a plain search."""

import itertools
import random
import unittest

from tests.helper import (
    BUILT, EVEN, MOST, ODD, SIDE_SIZE, one_street, plate_of_rank, plates_after, rank, run, side_with, tail,
)

# For each list what it is made from, and how many calls it has.
LISTS = [(seed, 40 + 5 * seed) for seed in range(60)]
SIDES = [(street, side) for street in range(6) for side in (ODD, EVEN)]


def some_call(source, name):
    """A call of that name whose arguments are mostly such as there are."""
    street = source.choice((0, 0, 0, 0, 0, 1, 1, 1, 1, 2, 2, 5, 6, MOST))
    house = source.choice([source.randrange(8), source.randrange(16), source.randrange(30)] * 5 + [40, MOST])
    side = source.choice((0, 0, 0, 0, 0, 1, 1, 1, 2))
    if name == "street":
        return (name, source.choice((0, 1, 2, 3, 4, 5, 6, 7, 8, 9, 10, 999, 1000)), source.choice((9, 10, 30, 30, 2000, 2001)))
    if name == "rename":
        return (name, street, source.choice((0, 1, 2, 3, 9, 999, 1000)))
    if name == "house":
        return (name, street, side, source.choice([source.randrange(30)] * 6 + [30, 1999, 2000]))
    if name == "plate":
        number = source.choice((1, 2, 3, 4, 5, 6, 7, 8, 996, 997, 998, 999, 0, 1000, source.randrange(1000)))
        return (name, house, number, source.choice((0, 0, 0, 1, 2, 25, 26, 27)))
    if name in ("order", "fewest", "mend"):
        return (name, street, side)
    if name in ("anew", "right"):
        return (name, street)
    return (name, house)


def some_calls(seed, length):
    """A list of calls that mostly builds houses and gives plates, the same for the same seed."""
    source = random.Random(seed)
    names = BUILT[1:] + ["house"] * 16 + ["plate"] * 14 + ["between"] * 4 + ["street"] * 2
    calls = [("begin",), ("street", 1, 30), ("street", 2, 2000)]
    while len(calls) < length:
        name = "begin" if source.randrange(300) == 0 else source.choice(names)
        calls.append((name,) if name == "begin" else some_call(source, name))
    return calls


def orders(calls):
    """The houses of each side of each street behind these calls; none where there is no street."""
    told = tail(calls, [("order", street, side) for street, side in SIDES])
    return {place: answer[1:] for place, answer in zip(SIDES, told) if answer[0] >= 0}


def plates_by_side(calls):
    """Of each side the plates of its houses, in order, (0, 0) where there is none."""
    plates = plates_after(calls, range(40))
    return {place: [plates[house] for house in houses] for place, houses in orders(calls).items()}


def rise(plates):
    return all(one < other for one, other in zip(plates, plates[1:]))


def over_lists(check):
    """A test that holds a check against every longer list."""
    def test(self):
        for seed, length in LISTS:
            with self.subTest(seed=seed):
                check(self, some_calls(seed, length))
    return test


class OverLongerLists(unittest.TestCase):
    def test_the_lists_reach_every_answer(self):
        """The lists below are worth something only if calls are carried out and refused in them."""
        seen = {}
        for seed, length in LISTS:
            calls = some_calls(seed, length)
            for call, answer in zip(calls, run(calls)):
                seen.setdefault(call[0], {})[min(answer[0], 0)] = True
        expected = {
            "street": {-28, -22, -17, 0}, "rename": {-2, -22, -17, 0}, "house": {-2, -22, -17, -28, 0}, "pull": {-2, 0},
            "plate": {-2, -22, -71, -17, 0}, "unplate": {-2, -6, 0}, "anew": {-2, 0}, "between": {-2, -17, -33, 0},
            "order": {-2, -22, 0}, "right": {-2, 0}, "fewest": {-2, -22, 0}, "mend": {-2, -22, 0},
        }
        for name, kinds in expected.items():
            with self.subTest(name=name):
                self.assertLessEqual(kinds, set(seen[name]))

    @over_lists
    def test_a_no_two_houses_of_a_side_have_one_plate(self, calls):
        for place, plates in plates_by_side(calls).items():
            had = [plate for plate in plates if plate != (0, 0)]
            self.assertEqual(len(had), len(set(had)), place)
            for number, letter in had:
                self.assertTrue(1 <= number <= 999 and 0 <= letter <= 26 and number % 2 != place[1])

    @over_lists
    def test_a_no_two_stand_at_one_place_and_each_is_on_a_street(self, calls):
        places = {}
        for call, answer in zip(calls, run(calls)):
            if call[0] == "begin":
                places = {}
            elif call[0] == "pull" and answer[0] == 0:
                del places[call[1]]
            elif call[0] == "house" and answer[0] >= 0:
                self.assertNotIn(call[1:], places.values())
                places[answer[0]] = call[1:]
        expected = {
            side: sorted((house for house in places if places[house][:2] == side), key=lambda house: places[house][2])
            for side in orders(calls)
        }
        self.assertEqual(orders(calls), expected)
        self.assertEqual(sum(len(houses) for houses in expected.values()), len(places))

    @over_lists
    def test_b_numbered_anew_all_have_a_plate_and_plates_rise(self, calls):
        before = plates_by_side(calls)
        streets = sorted({street for street, side in before})
        for street in streets:
            differing, right = tail(calls, [("anew", street), ("right", street)])
            after = plates_by_side(calls + [("anew", street)])
            self.assertEqual(right, [1])
            for side in (ODD, EVEN):
                self.assertNotIn((0, 0), after[street, side])
                self.assertTrue(rise(after[street, side]))
            changed = [
                1 for side in (ODD, EVEN)
                for one, other in zip(before[street, side], after[street, side]) if one != other
            ]
            self.assertEqual(differing, [len(changed)])

    @over_lists
    def test_b_a_plate_put_between_lies_between(self, calls):
        told = run(calls)
        for place, call in enumerate(calls):
            if call[0] != "between" or told[place][0] != 0:
                continue
            (side, houses), = [kept for kept in orders(calls[:place]).items() if call[1] in kept[1]]
            plates = plates_by_side(calls[:place])[side]
            at = houses.index(call[1])
            given = tuple(told[place][1:])
            self.assertNotIn(given, plates)
            for other in [plate for plate in plates[:at] if plate != (0, 0)][-1:]:
                self.assertLess(other, given)
            for other in [plate for plate in plates[at:] if plate != (0, 0)][:1]:
                self.assertLess(given, other)

    @over_lists
    def test_c_mended_they_rise_by_as_many_as_told(self, calls):
        before = plates_by_side(calls)
        for (street, side), plates in before.items():
            fewest, mended = tail(calls, [("fewest", street, side), ("mend", street, side)])
            after = plates_by_side(calls + [("mend", street, side)])
            changed = [one for one, other in zip(plates, after[street, side]) if one != other]
            self.assertEqual((fewest[:1], mended), ([len(changed)], [len(changed)]))
            self.assertTrue(rise([plate for plate in after[street, side] if plate != (0, 0)]))
            staying = [
                house for house, one, other in zip(orders(calls)[street, side], plates, after[street, side])
                if one == other and one != (0, 0)
            ]
            self.assertEqual(fewest[1:], staying)
            del after[street, side]
            self.assertEqual(after, {place: before[place] for place in after})

    @over_lists
    def test_f_what_is_refused_changes_nothing(self, calls):
        told = run(calls)
        carried_out = [call for call, answer in zip(calls, told) if answer[0] >= 0]
        self.assertEqual(run(carried_out), [answer for answer in told if answer[0] >= 0])
        self.assertEqual(plates_by_side(calls), plates_by_side(carried_out))

    @over_lists
    def test_what_only_tells_changes_nothing(self, calls):
        kept = [call for call in calls if call[0] not in ("order", "right", "fewest")]
        self.assertEqual(plates_by_side(calls), plates_by_side(kept))


def stays_by_search(ranks, window):
    """The places that stay, by trying every rising choice of plates out of the window."""
    choices = [
        [place for place in range(len(ranks)) if ranks[place] == chosen[place]]
        for chosen in itertools.combinations(window, len(ranks))
    ]
    return min(choices, key=lambda places: (-len(places), places))


def stays_by_subsets(ranks, size):
    """The places that stay, by trying every subset: the others get the least plates that rise."""
    for count in range(len(ranks), -1, -1):
        for places in itertools.combinations(range(len(ranks)), count):
            reached = -1
            for place, here in enumerate(ranks):
                if place in places and here <= reached:
                    break
                reached = here if place in places else reached + 1
            else:
                if reached < size:
                    return list(places)


class AgainstPlainSearch(unittest.TestCase):
    """c: with fewer plates changed than told they never rise."""

    def check(self, side, ranks, staying):
        plates = [plate_of_rank(side, place) for place in ranks]
        calls = one_street() + side_with(plates, side) + [("fewest", 0, side), ("mend", 0, side), ("right", 0)]
        changed = len(ranks) - len(staying)
        self.assertEqual(run(calls)[-3:], [[changed] + staying, [changed], [1]], plates)
        mended = [rank(plate) for plate in plates_after(calls, range(len(ranks)))]
        expected = []
        for place, here in enumerate(ranks):
            expected.append(here if place in staying else (expected[-1] + 1 if expected else 0))
        self.assertEqual(mended, expected, plates)

    def test_every_small_side_at_the_least_plates(self):
        # No choice of plates needs one higher than as many as there are houses above the highest.
        for side in (ODD, EVEN):
            for count, highest in ((1, 3), (2, 5), (3, 6), (4, 5)):
                for ranks in itertools.permutations(range(highest), count):
                    self.check(side, ranks, stays_by_search(ranks, range(highest + count)))

    def test_every_small_side_at_the_last_plates(self):
        for side in (ODD, EVEN):
            size = SIDE_SIZE[side]
            for count, highest in ((1, 3), (2, 5), (3, 6), (4, 5)):
                for ranks in itertools.permutations(range(size - highest, size), count):
                    # Those ahead of the first that stays may be as low as can be, or just below the others.
                    self.check(side, ranks, stays_by_search(ranks, range(size - highest - count, size)))

    def test_sides_of_up_to_ten(self):
        source = random.Random(5)
        for turn in range(1500):
            side = turn % 2
            size = SIDE_SIZE[side]
            near = source.choice((4, 12, 20, 40))
            pool = list(range(near)) + list(range(size - near, size)) + source.sample(range(size), 5)
            middle = source.randrange(100, size - 100)
            pool += range(middle, middle + near)
            ranks = source.sample(sorted(set(pool)), source.randrange(1, 11))
            if turn % 3 == 0:
                ranks = sorted(ranks)
                one, other = source.randrange(len(ranks)), source.randrange(len(ranks))
                ranks[one], ranks[other] = ranks[other], ranks[one]
            self.check(side, ranks, stays_by_subsets(ranks, size))


if __name__ == "__main__":
    unittest.main()
