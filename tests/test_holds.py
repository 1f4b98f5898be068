"""What holds: a to f over longer lists of all calls, and c held against a plain search."""

import itertools
import random
import unittest

from tests.helper import (
    EVEN, MOST, NAMES, ODD, SIDE_SIZE, TELLING, View, one_street, plate_of_rank, plates_after, rank, run, seen, side_with,
    tail,
)

# For each list what it is made from, and how many calls it has.
LISTS = [(seed, 40 + 5 * seed) for seed in range(60)]
SIDES = [(street, side) for street in range(6) for side in (ODD, EVEN)]


def some_number(source, name, kind):
    """An argument of that kind, mostly such as there are."""
    if kind == "street":
        return source.choice([0] * 8 + [1] * 7 + [2, 2, 2, 3, 3, 4, 5, 6, MOST])
    if kind == "house":
        return source.choice([source.randrange(5), source.randrange(10), source.randrange(25)] * 8 + [40, MOST])
    if kind == "side":
        return source.choice((0, 0, 0, 0, 0, 1, 1, 1, 2))
    if kind == "name":
        return source.choice([1] * 5 + [2] * 5 + [3, 4, 5, 6, 7, 8, 9, 10, 999, 0, 1000])
    if kind == "number":
        return source.choice([1, 2, 3, 4, 5, 6, 7, 8] * 2 + [996, 997, 998, 999, 0, 1000, source.randrange(1000)])
    if kind == "letter":
        return source.choice((0, 0, 0, 0, 0, 1, 2, 25, 26, 27))
    if name == "street":
        return source.choice((9, 10, 30, 30, 30, 1960, 2000, 2001))
    return source.choice([source.randrange(30)] * 12 + [0, 30, 59, 1999, 2000])


# What each call is given, where it is anything.
KINDS = {
    "street": "name metre", "rename": "street name", "house": "street side metre", "pull": "house",
    "plate": "house number letter", "unplate": "house", "anew": "street", "between": "house", "order": "street side",
    "right": "street", "fewest": "street side", "mend": "street side", "find": "name number letter", "opposite": "house",
    "next": "house", "closest": "street metre", "walk": "house house", "join": "street street", "cut": "street metre name",
    "count": "street", "free": "street side", "look": "house", "bare": "street",
}


def some_calls(seed, length):
    """A list of calls that mostly builds houses and gives plates, the same for the same seed."""
    source = random.Random(seed)
    names = NAMES[1:] + ["house"] * 18 + ["plate"] * 16 + ["between"] * 5 + ["find", "street", "street"]
    calls = []
    while len(calls) < length:
        if not calls or source.randrange(300) == 0:
            calls += [("begin",), ("street", 1, 30), ("street", 2, source.choice((30, 1970, 2000)))]
        name = source.choice(names)
        kinds = KINDS.get(name, "").split()
        calls.append((name,) + tuple(some_number(source, name, kind) for kind in kinds))
    return calls[:length]


def orders(calls):
    """The houses of each side of each street behind these calls; none where there is no street."""
    told = tail(calls, [("order", street, side) for street, side in SIDES])
    return {place: answer[1:] for place, answer in zip(SIDES, told) if answer[0] >= 0}


def plates_by_side(calls):
    """Of each side the plates of its houses, in order, (0, 0) where there is none."""
    plates = plates_after(calls, range(40))
    return {place: [plates[house] for house in houses] for place, houses in orders(calls).items()}


def before_the_sixth_street(calls):
    """The list up to the call that first makes a sixth street, as a cut needs room for one."""
    made = 0
    for place, (call, answer) in enumerate(zip(calls, run(calls))):
        if call[0] == "begin":
            made = 0
        if call[0] in ("street", "cut") and answer[0] >= 0:
            made += 1
            if made == 6:
                return calls[:place]
    return calls


def rise(plates):
    return all(one < other for one, other in zip(plates, plates[1:]))


def over_lists(check):
    """A test that holds a check against every longer list."""
    def test(self):
        for seed, length in LISTS:
            with self.subTest(seed=seed):
                check(self, some_calls(seed, length))
    return test


class OverLongerLists(unittest.TestCase):
    def test_the_lists_reach_every_answer(self):
        """The lists below are worth something only if calls are carried out and refused in them."""
        seen = {}
        for seed, length in LISTS:
            calls = some_calls(seed, length)
            for call, answer in zip(calls, run(calls)):
                seen.setdefault(call[0], {})[min(answer[0], 0)] = True
        expected = {
            "street": {-28, -22, -17, 0}, "rename": {-2, -22, -17, 0}, "house": {-2, -22, -17, -28, 0}, "pull": {-2, 0},
            "plate": {-2, -22, -71, -17, 0}, "unplate": {-2, -6, 0}, "anew": {-2, 0}, "between": {-2, -17, -33, 0},
            "order": {-2, -22, 0}, "right": {-2, 0}, "fewest": {-2, -22, 0}, "mend": {-2, -22, 0},
            "find": {-2, -22, -33, 0}, "opposite": {-2, -33, 0}, "next": {-2, -33, 0}, "closest": {-2, -22, -33, 0},
            "walk": {-2, -16, 0}, "join": {-2, -22, -28, 0}, "cut": {-2, -22, -17, -28, 0}, "count": {-2, 0},
            "free": {-2, -22, 0}, "streets": {0}, "look": {-2, 0}, "bare": {-2, 0}, "state": {0},
        }
        for name, kinds in expected.items():
            with self.subTest(name=name):
                self.assertLessEqual(kinds, set(seen[name]))

    @over_lists
    def test_a_no_two_houses_of_a_side_have_one_plate(self, calls):
        for place, plates in plates_by_side(calls).items():
            had = [plate for plate in plates if plate != (0, 0)]
            self.assertEqual(len(had), len(set(had)), place)
            for number, letter in had:
                self.assertTrue(1 <= number <= 999 and 0 <= letter <= 26 and number % 2 != place[1])

    @over_lists
    def test_a_no_two_stand_at_one_place_and_each_is_on_a_street(self, calls):
        view = seen(calls)
        places = [house[:3] for house in view.houses.values()]
        self.assertEqual(len(places), len(set(places)))
        for street, side, metre in places:
            self.assertIn(side, (ODD, EVEN))
            self.assertLess(metre, view.streets[street][1])
        for place in SIDES:
            self.assertLessEqual(len([1 for house in places if house[:2] == place]), 10)

    @over_lists
    def test_a_order_tells_each_house_once_by_its_metre(self, calls):
        view = seen(calls)
        told = orders(calls)
        there = [street for street, (name, metres) in enumerate(view.streets) if name != 0]
        self.assertEqual(sorted(told), [(street, side) for street in there for side in (ODD, EVEN)])
        for place, houses in told.items():
            expected = [house for house in view.houses if view.houses[house][:2] == place]
            self.assertEqual(houses, sorted(expected, key=lambda house: view.houses[house][2]))
        self.assertEqual(sum(len(houses) for houses in told.values()), len(view.houses))

    @over_lists
    def test_streets_have_names_and_metres_of_their_own(self, calls):
        there = [street for street in seen(calls).streets if street != (0, 0)]
        self.assertEqual(len(there), len({name for name, metres in there}))
        for name, metres in there:
            self.assertTrue(1 <= name <= 999 and 1 <= metres <= 2000)

    @over_lists
    def test_b_numbered_anew_all_have_a_plate_and_plates_rise(self, calls):
        before = plates_by_side(calls)
        streets = sorted({street for street, side in before})
        for street in streets:
            differing, right = tail(calls, [("anew", street), ("right", street)])
            after = plates_by_side(calls + [("anew", street)])
            self.assertEqual(right, [1])
            for side in (ODD, EVEN):
                self.assertNotIn((0, 0), after[street, side])
                self.assertTrue(rise(after[street, side]))
            changed = [
                1 for side in (ODD, EVEN)
                for one, other in zip(before[street, side], after[street, side]) if one != other
            ]
            self.assertEqual(differing, [len(changed)])

    @over_lists
    def test_b_a_plate_put_between_lies_between(self, calls):
        told = run(calls)
        for place, call in enumerate(calls):
            if call[0] != "between" or told[place][0] != 0:
                continue
            (side, houses), = [kept for kept in orders(calls[:place]).items() if call[1] in kept[1]]
            plates = plates_by_side(calls[:place])[side]
            at = houses.index(call[1])
            given = tuple(told[place][1:])
            self.assertNotIn(given, plates)
            for other in [plate for plate in plates[:at] if plate != (0, 0)][-1:]:
                self.assertLess(other, given)
            for other in [plate for plate in plates[at:] if plate != (0, 0)][:1]:
                self.assertLess(given, other)

    @over_lists
    def test_c_mended_they_rise_by_as_many_as_told(self, calls):
        before = plates_by_side(calls)
        for (street, side), plates in before.items():
            fewest, mended = tail(calls, [("fewest", street, side), ("mend", street, side)])
            after = plates_by_side(calls + [("mend", street, side)])
            changed = [one for one, other in zip(plates, after[street, side]) if one != other]
            self.assertEqual((fewest[:1], mended), ([len(changed)], [len(changed)]))
            self.assertTrue(rise([plate for plate in after[street, side] if plate != (0, 0)]))
            staying = [
                house for house, one, other in zip(orders(calls)[street, side], plates, after[street, side])
                if one == other and one != (0, 0)
            ]
            self.assertEqual(fewest[1:], staying)
            del after[street, side]
            self.assertEqual(after, {place: before[place] for place in after})

    @over_lists
    def test_d_who_is_opposite_is_nearest(self, calls):
        view = seen(calls)
        told = tail(calls, [("opposite", house) for house in view.houses])
        for (street, side, metre, *plate), answer in zip(view.houses.values(), told):
            across = [other[2] for other in view.houses.values() if other[:2] == (street, 1 - side)]
            if across:
                least = min(abs(other - metre) for other in across)
                self.assertEqual(answer[1], least)
                nearest = min(other for other in across if abs(other - metre) == least)
                self.assertEqual(view.houses[answer[0]][:3], (street, 1 - side, nearest))
            else:
                self.assertEqual(answer, [-33])

    @over_lists
    def test_d_a_house_is_found_by_its_streets_name_and_its_plate(self, calls):
        view = seen(calls)
        plated = {house: told for house, told in view.houses.items() if told[3] != 0}
        told = tail(calls, [("find", view.streets[street][0], x, l) for street, side, metre, x, l in plated.values()])
        self.assertEqual(told, [[house, told[1], told[2]] for house, told in plated.items()])

    @over_lists
    def test_e_cut_and_joined_again_all_stand_where_they_stood(self, calls):
        calls = before_the_sixth_street(calls)
        view = seen(calls)
        for street, (name, metres) in enumerate(view.streets):
            at_houses = [house[2] for house in view.houses.values() if house[0] == street]
            for metre in {1, metres // 2, metres - 1}.union(at_houses):
                if 0 < metre < metres:
                    again = [("cut", street, metre, 777), ("join", street, len(view.streets))]
                    self.assertEqual(tail(calls, again), [[len(view.streets), metres - metre], [metres, 0]])
                    self.assertEqual(seen(calls + again), View(view.streets + [(0, 0)], view.ever, view.houses))

    @over_lists
    def test_f_what_is_refused_changes_nothing(self, calls):
        told = run(calls)
        carried_out = [call for call, answer in zip(calls, told) if answer[0] >= 0]
        self.assertEqual(run(carried_out), [answer for answer in told if answer[0] >= 0])
        self.assertEqual(plates_by_side(calls), plates_by_side(carried_out))
        self.assertEqual(seen(calls), seen(carried_out))

    @over_lists
    def test_what_only_tells_changes_nothing(self, calls):
        kept = [call for call in calls if call[0] not in TELLING]
        self.assertEqual(plates_by_side(calls), plates_by_side(kept))
        self.assertEqual(seen(calls), seen(kept))


def on_side(view, street, side):
    """The houses of a side, in order, as they are seen."""
    there = [house for house, told in view.houses.items() if told[:2] == (street, side)]
    return sorted(there, key=lambda house: view.houses[house][2])


def due(*cases):
    """The first refusal that is due, alone, or None."""
    return next(([answer] for answer, is_due in cases if is_due), None)


class ByTheDocumentsWords:
    """What the calls of points 6 to 8 answer, from nothing but what was seen ahead of them."""

    def __init__(self, view):
        self.view = view
        self.houses = view.houses
        self.streets = {s: told for s, told in enumerate(view.streets) if told != (0, 0)}
        self.after = view

    def of(self, street):
        return on_side(self.view, street, ODD) + on_side(self.view, street, EVEN)

    def metre(self, house):
        return self.houses[house][2]

    def find(self, n, x, l):
        named = [s for s in self.streets if self.streets[s][0] == n]
        had = {self.houses[house][3:]: house for s in named for house in self.of(s)}
        refused = due((-2, not named), (-22, not 1 <= x <= 999 or l > 26), (-33, (x, l) not in had))
        return refused or [had[x, l]] + list(self.houses[had[x, l]][1:3])

    def opposite(self, h):
        if h not in self.houses:
            return [-2]
        street, side, here = self.houses[h][:3]
        far = sorted((abs(self.metre(i) - here), self.metre(i), i) for i in on_side(self.view, street, 1 - side))
        return [far[0][2], far[0][0]] if far else [-33]

    def next(self, h):
        if h not in self.houses:
            return [-2]
        side = on_side(self.view, *self.houses[h][:2])
        behind = side[side.index(h) + 1:]
        return [behind[0], self.metre(behind[0]) - self.metre(h)] if behind else [-33]

    def closest(self, s, m):
        if s not in self.streets:
            return [-2]
        far = sorted((abs(self.metre(i) - m), self.houses[i][1], self.metre(i), i) for i in self.of(s))
        refused = due((-22, m >= self.streets[s][1]), (-33, not far))
        return refused or [far[0][3], far[0][1], far[0][0]]

    def walk(self, h, i):
        if h not in self.houses or i not in self.houses:
            return [-2]
        return due((-16, self.houses[h][0] != self.houses[i][0])) or [abs(self.metre(h) - self.metre(i))]

    def join(self, s, t):
        if s not in self.streets or t not in self.streets:
            return [-2]
        metres = self.streets[s][1] + self.streets[t][1]
        full = any(len(on_side(self.view, s, d) + on_side(self.view, t, d)) > 10 for d in (ODD, EVEN))
        refused = due((-22, s == t), (-28, metres > 2000 or full))
        if refused:
            return refused
        had = [self.houses[house][3:] for house in self.of(s) if self.houses[house][3] != 0]
        went = [house for house in self.of(t) if self.houses[house][3:] in had]
        moved = {
            house: (s, told[1], told[2] + self.streets[s][1]) + ((0, 0) if house in went else told[3:])
            for house, told in self.houses.items() if told[0] == t
        }
        streets = list(self.view.streets)
        streets[s], streets[t] = (streets[s][0], metres), (0, 0)
        self.after = View(streets, self.view.ever, {**self.houses, **moved})
        return [metres, len(went)]

    def cut(self, s, m, n):
        if s not in self.streets:
            return [-2]
        name, metres = self.streets[s]
        refused = due((-22, not 0 < m < metres or not 1 <= n <= 999), (-17, n in [one for one, size in self.streets.values()]),
                      (-28, len(self.view.streets) == 6))
        if refused:
            return refused
        made = len(self.view.streets)
        streets = [(name, m) if place == s else told for place, told in enumerate(self.view.streets)]
        moved = {
            house: (made, told[1], told[2] - m) + told[3:]
            for house, told in self.houses.items() if told[0] == s and told[2] >= m
        }
        self.after = View(streets + [(n, metres - m)], self.view.ever, {**self.houses, **moved})
        return [made, metres - m]

    def count(self, s):
        sides = [len(on_side(self.view, s, d)) for d in (ODD, EVEN)]
        plated = [house for house in self.of(s) if self.houses[house][3] != 0]
        return due((-2, s not in self.streets)) or [sum(sides)] + sides + [len(plated)]

    def free(self, s, d):
        had = [self.houses[house][3:] for house in on_side(self.view, s, d)]
        refused = due((-2, s not in self.streets), (-22, d > 1))
        return refused or [min(number for number in range(1, 30) if number % 2 != d and (number, 0) not in had)]

    def look(self, h):
        return due((-2, h not in self.houses)) or list(self.houses[h])

    def bare(self, s):
        without = [house for house in self.of(s) if self.houses[house][3:] == (0, 0)]
        return due((-2, s not in self.streets)) or [len(without)] + without

    def streets_told(self):
        return [len(self.streets)] + [number for told in self.view.streets for number in told]

    def state(self):
        return [len(self.view.streets), self.view.ever, len(self.houses)]


def by_the_words(words, call):
    """What a call is to answer."""
    name = "streets_told" if call[0] == "streets" else call[0]
    return getattr(words, name)(*call[1:])


class CallByCall(unittest.TestCase):
    """Points 6 to 8 and f, held against the document's words behind every call of a list."""

    def check(self, calls):
        told = run(calls)
        view = seen(calls[:1])
        for place, call in enumerate(calls[1:], 1):
            words = ByTheDocumentsWords(view)
            view = seen(calls[:place + 1])
            if call[0] in NAMES[13:]:
                self.assertEqual(told[place], by_the_words(words, call), (place, call))
                self.assertEqual(view, words.after, (place, call))
            elif told[place][0] < 0:
                self.assertEqual(view, words.view, (place, call))

    def test_shorter_lists(self):
        for seed in range(100, 140):
            with self.subTest(seed=seed):
                self.check(some_calls(seed, 90))

    def test_400_calls(self):
        # What is seen on the way comes from those calls alone that change something: else there is no room for it.
        for seed in range(400, 406):
            calls = some_calls(seed, 400)
            kept = []
            for place, (call, answer) in enumerate(zip(calls, run(calls))):
                if call[0] in NAMES[13:]:
                    with self.subTest(seed=seed, place=place, call=call):
                        self.assertEqual(answer, by_the_words(ByTheDocumentsWords(seen(kept)), call))
                if answer[0] >= 0 and call[0] not in TELLING:
                    kept.append(call)

    def test_a_list_as_long_as_can_be_with_all_that_is_seen_behind_it(self):
        # Behind its last call a list has room for the 42 calls that look at everything.
        for seed in (200, 201):
            with self.subTest(seed=seed):
                self.check(some_calls(seed, 358))

    def test_with_many_joins_and_cuts(self):
        source = random.Random(9)
        for seed in range(300, 340):
            with self.subTest(seed=seed):
                calls = [("begin",)] + [("street", name, source.choice((10, 12, 30))) for name in (1, 2)]
                for place in range(30):
                    calls.append(("house", source.randrange(2), source.randrange(2), source.randrange(12)))
                    calls.append(("between", source.randrange(12)))
                for place in range(30):
                    calls.append(("cut", source.randrange(6), source.randrange(1, 20), source.randrange(1, 9)))
                    calls.append(("join", source.randrange(6), source.randrange(6)))
                    calls.append(source.choice((("anew", 0), ("mend", 1, 0), ("pull", source.randrange(20)))))
                self.check(calls)


def stays_by_search(ranks, window):
    """The places that stay, by trying every rising choice of plates out of the window."""
    choices = [
        [place for place in range(len(ranks)) if ranks[place] == chosen[place]]
        for chosen in itertools.combinations(window, len(ranks))
    ]
    return min(choices, key=lambda places: (-len(places), places))


def stays_by_subsets(ranks, size):
    """The places that stay, by trying every subset: the others get the least plates that rise."""
    for count in range(len(ranks), -1, -1):
        for places in itertools.combinations(range(len(ranks)), count):
            reached = -1
            for place, here in enumerate(ranks):
                if place in places and here <= reached:
                    break
                reached = here if place in places else reached + 1
            else:
                if reached < size:
                    return list(places)


class AgainstPlainSearch(unittest.TestCase):
    """c: with fewer plates changed than told they never rise."""

    def check(self, side, ranks, staying):
        plates = [plate_of_rank(side, place) for place in ranks]
        calls = one_street() + side_with(plates, side) + [("fewest", 0, side), ("mend", 0, side), ("right", 0)]
        changed = len(ranks) - len(staying)
        self.assertEqual(run(calls)[-3:], [[changed] + staying, [changed], [1]], plates)
        mended = [rank(plate) for plate in plates_after(calls, range(len(ranks)))]
        expected = []
        for place, here in enumerate(ranks):
            expected.append(here if place in staying else (expected[-1] + 1 if expected else 0))
        self.assertEqual(mended, expected, plates)

    def test_every_small_side_at_the_least_plates(self):
        # No choice of plates needs one higher than as many as there are houses above the highest.
        for side in (ODD, EVEN):
            for count, highest in ((1, 3), (2, 5), (3, 6), (4, 5)):
                for ranks in itertools.permutations(range(highest), count):
                    self.check(side, ranks, stays_by_search(ranks, range(highest + count)))

    def test_every_small_side_at_the_last_plates(self):
        for side in (ODD, EVEN):
            size = SIDE_SIZE[side]
            for count, highest in ((1, 3), (2, 5), (3, 6), (4, 5)):
                for ranks in itertools.permutations(range(size - highest, size), count):
                    # Those ahead of the first that stays may be as low as can be, or just below the others.
                    self.check(side, ranks, stays_by_search(ranks, range(size - highest - count, size)))

    def test_sides_of_up_to_ten(self):
        source = random.Random(5)
        for turn in range(1500):
            side = turn % 2
            size = SIDE_SIZE[side]
            near = source.choice((4, 12, 20, 40))
            pool = list(range(near)) + list(range(size - near, size)) + source.sample(range(size), 5)
            middle = source.randrange(100, size - 100)
            pool += range(middle, middle + near)
            ranks = source.sample(sorted(set(pool)), source.randrange(1, 11))
            if turn % 3 == 0:
                ranks = sorted(ranks)
                one, other = source.randrange(len(ranks)), source.randrange(len(ranks))
                ranks[one], ranks[other] = ranks[other], ranks[one]
            self.check(side, ranks, stays_by_subsets(ranks, size))


if __name__ == "__main__":
    unittest.main()
