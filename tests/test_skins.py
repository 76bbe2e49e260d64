"""[5]: what a skin is, and what keeps something from being one."""

import copy
import itertools
import random
import unittest

import plain
from forms import all_forms, beside, double_tip, make_skin, on_circle, ring, sheet, spread, tip, triangle, tube
from things import deep_thing, odd_things, with_lists, with_others, with_truths
from thinskin.skins import fault_in, is_skin

# Five corners, no three of them on one line but the first, the second and the last.
TABLE = ((0, 0, 0), (4, 0, 0), (0, 4, 0), (0, 0, 4), (8, 0, 0))


class IsSkin(unittest.TestCase):
    def test_forms(self):
        for name, skin in all_forms().items():
            self.assertIs(is_skin(skin), True, name)

    def test_places_alike_of_unlike_corners(self):
        self.assertIs(is_skin(beside(tip(), tip())), True)
        self.assertIs(is_skin(beside(triangle(), triangle())), True)

    def test_corners_that_are_in_no_triangle(self):
        corners, triangles = triangle()
        self.assertIs(is_skin((corners + ((1000, -1000, 1000),), triangles)), True)
        self.assertIs(is_skin((((0, 0, 0),) * 3 + corners, ((3, 4, 5, 0),))), True)
        self.assertIs(is_skin(spread(tip(), 4)), True)

    def test_how_many_is_not_looked_at(self):
        for skin in [sheet(40, 30), ring(40, 30), tube(60, 25), spread(sheet(12, 11), 3), double_tip(700)]:
            self.assertGreater(len(skin[0]), 120)
            self.assertGreater(len(skin[1]), 240)
            self.assertIs(is_skin(skin), True)
            self.assertIs(fault_in(*skin), None)
            twice = skin[1] + skin[1][-1:]
            self.assertIs(is_skin((skin[0], twice)), False)
            self.assertIs(is_skin((skin[0], skin[1][1:] + skin[1][:1])), False)

    def test_most_places_of_one_triangle(self):
        places = ((0, 0, 0), (1, 0, 0), (0, 1, 0)) + ((5, 5, 5),) * 4900
        self.assertIs(is_skin((places, ((0, 1, 2, 0),))), True)
        self.assertIs(is_skin((places, ((0, 1, 4902, 0),))), True)
        self.assertIs(is_skin((places, ((0, 1, 4903, 0),))), False)
        self.assertIs(is_skin((places + ((5, 5, 1001),), ((0, 1, 2, 0),))), False)

    def test_places_at_the_bounds(self):
        places = [(-1000, -1000, -1000), (1000, -1000, 1000), (1000, 1000, -1000)]
        self.assertIs(is_skin((tuple(places), ((0, 1, 2, 9),))), True)
        for corner, axis in itertools.product(range(3), repeat=2):
            for by in [1001, -1001]:
                wide = [list(place) for place in places]
                wide[corner][axis] = by
                self.assertIs(is_skin((tuple(map(tuple, wide)), ((0, 1, 2, 9),))), False)

    def test_labels(self):
        for label in range(-2, 13):
            self.assertIs(is_skin((TABLE, ((0, 1, 2, label),))), 0 <= label <= 9, label)

    def test_numbers_of_corners(self):
        numbers = [-5, -1, 0, 1, 2, 3, 4, 5, 6, 10 ** 30]
        for trio in itertools.product(numbers, repeat=3):
            thing = (TABLE, (trio + (0,),))
            self.assertIs(is_skin(thing), plain.is_skin(thing), trio)
        self.assertIs(is_skin((TABLE, ((0, 2, 3, 0),))), True)
        for trio in [(1, 0, 2), (2, 1, 0), (1, 2, 0), (0, 1, 1), (0, 0, 1), (1, 1, 1), (0, 1, 5), (-1, 1, 2)]:
            self.assertIs(is_skin((TABLE, (trio + (0,),))), False, trio)

    def test_each_clause_by_itself(self):
        self.assertIs(is_skin((TABLE, ((0, 1, 4, 0),))), False)
        self.assertIs(is_skin((TABLE, ((0, 1, 2, 0), (0, 1, 3, 0)))), False)
        self.assertIs(is_skin((TABLE, ((0, 1, 2, 0), (0, 2, 1, 0)))), False)
        self.assertIs(is_skin((TABLE, ((0, 1, 2, 0), (2, 3, 4, 0)))), False)
        self.assertIs(is_skin((TABLE, ((0, 1, 2, 0), (0, 2, 3, 0)))), True)

    def test_not_rising_or_twice_or_none(self):
        corners, triangles = sheet(2, 2)
        self.assertIs(is_skin((corners, triangles[::-1])), False)
        for at in range(len(triangles) - 1):
            changed = triangles[:at] + (triangles[at + 1], triangles[at]) + triangles[at + 2:]
            self.assertIs(is_skin((corners, changed)), False, at)
        for at in range(len(triangles)):
            self.assertIs(is_skin((corners, triangles[:at + 1] + triangles[at:])), False, at)
        self.assertIs(is_skin((corners, ())), False)
        self.assertIs(is_skin(((), ())), False)

    def test_label_breaks_the_rising(self):
        self.assertIs(is_skin((TABLE, ((0, 1, 2, 1), (0, 1, 2, 0)))), False)
        self.assertIs(is_skin((TABLE, ((0, 1, 2, 0), (0, 1, 2, 1)))), False)

    def test_any_part_in_another_kind(self):
        for skin in [triangle(), make_skin(TABLE[:4], [(0, 1, 2, 1), (0, 2, 3, 0)])]:
            for thing in with_others(skin):
                before = copy.deepcopy(thing)
                self.assertIs(is_skin(thing), plain.is_skin(thing), repr(thing))
                self.assertEqual(repr(thing), repr(before))

    def test_true_in_the_place_of_one(self):
        skin = (TABLE[:1] + ((1, 0, 0), (0, 1, 0)), ((0, 1, 2, 1),))
        self.assertIs(is_skin(skin), True)
        for thing in with_truths(skin):
            self.assertEqual(thing, skin)
            self.assertIs(is_skin(thing), False, repr(thing))

    def test_lists_in_the_place_of_tuples(self):
        for thing in with_lists(sheet(1, 1)):
            self.assertIs(is_skin(thing), False, repr(thing))

    def test_odd_things(self):
        things = odd_things() + [deep_thing(depth) for depth in range(11)]
        things += [(thing, thing) for thing in odd_things()[:-3]]
        for corners, triangles in [triangle(), tip()]:
            things += [(corners,), (corners, triangles, triangles), (triangles, corners), corners, triangles]
            for odd in odd_things():
                things += [(odd, triangles), (corners, odd), (corners, (odd,)), (corners, triangles + (odd,))]
                things += [((odd,) * 4, triangles), (corners, ((0, 1, 2, odd),)), (corners, ((odd, 1, 2, 0),))]
        for thing in things:
            told = is_skin(thing)
            self.assertIs(type(told), bool)
            self.assertIs(told, plain.is_skin(thing), repr(thing)[:80])

    def test_the_most_of_things(self):
        self.assertIs(is_skin((((0, 0, 0),) * 4998, ())), False)
        self.assertIs(is_skin((((0, 0, 0),) * 3, ((0, 1, 2, 0),) * 3990)), False)
        self.assertIs(is_skin((TABLE, tuple((0, 1, 2, 0) for _ in range(3990)))), False)
        self.assertIs(is_skin(((), tuple(range(19990)))), False)


class Faults(unittest.TestCase):
    def test_none_of_skins(self):
        for name, skin in all_forms().items():
            self.assertIs(fault_in(*skin), None, name)

    def check(self, triangles, told):
        self.assertEqual(fault_in(TABLE, triangles), told)
        self.assertEqual(plain.fault(TABLE, triangles), told)
        self.assertIs(is_skin((TABLE, triangles)), False)

    def test_flat(self):
        self.check(((0, 1, 4, 0),), ("flat", 0))
        self.check(((0, 1, 2, 0), (0, 2, 3, 0), (0, 4, 1, 5)), ("flat", 2))
        corners = TABLE + ((0, 0, 0),)
        self.assertEqual(fault_in(corners, ((0, 1, 2, 0), (0, 2, 5, 0))), ("flat", 1))
        self.assertEqual(fault_in(corners, ((0, 1, 5, 0), (0, 2, 5, 0))), ("flat", 0))

    def test_arrow(self):
        self.check(((0, 1, 2, 0), (0, 1, 3, 0)), ("arrow", (0, 1)))
        self.check(((0, 1, 2, 0), (0, 1, 2, 1)), ("arrow", (0, 1)))
        self.check(((0, 1, 2, 0), (1, 2, 3, 0)), ("arrow", (1, 2)))
        self.check(((0, 1, 2, 0), (0, 3, 2, 0)), ("arrow", (2, 0)))
        self.check(((0, 2, 1, 0), (0, 3, 1, 0), (2, 1, 3, 0)), ("arrow", (1, 0)))
        self.check(((0, 2, 1, 0), (2, 1, 3, 0)), ("arrow", (2, 1)))

    def test_arrow_three_times(self):
        self.check(((0, 1, 2, 0), (0, 1, 2, 1), (0, 1, 2, 2)), ("arrow", (0, 1)))
        self.check(((0, 1, 2, 0), (1, 2, 3, 0), (1, 2, 4, 0)), ("arrow", (1, 2)))

    def test_alike(self):
        self.check(((0, 1, 2, 0), (0, 2, 1, 0)), ("alike", 0))
        self.check(((0, 1, 2, 0), (0, 2, 1, 7)), ("alike", 0))
        self.check(((0, 1, 3, 0), (1, 2, 4, 0), (1, 4, 2, 0)), ("alike", 1))
        self.check(((0, 1, 3, 0), (0, 2, 1, 5), (2, 3, 4, 1), (2, 4, 3, 0)), ("alike", 2))

    def test_fan(self):
        self.check(((0, 1, 2, 0), (2, 3, 4, 0)), ("fan", 2))
        self.check(((0, 1, 2, 0), (0, 3, 4, 0)), ("fan", 0))
        table = TABLE + ((1, 1, 9), (2, 5, 7))
        self.assertEqual(fault_in(table, ((1, 2, 5, 0), (2, 6, 3, 0), (3, 4, 5, 0))), ("fan", 2))

    def test_fans_that_go_all_round(self):
        corners, triangles = beside(tip(), tip())
        joined = [tuple(3 if k == 7 else k for k in trio[:3]) + trio[3:] for trio in triangles]
        skin = make_skin(corners, joined)
        self.assertEqual(fault_in(*skin), ("fan", 3))
        self.assertIs(is_skin(skin), False)

    def test_a_fan_all_round_beside_an_open_one(self):
        corners, triangles = beside(tip(), triangle())
        for at in range(4):
            joined = [tuple(at if k == 4 else k for k in trio[:3]) + trio[3:] for trio in triangles]
            self.assertEqual(fault_in(*make_skin(corners, joined)), ("fan", at))

    def test_two_at_once(self):
        self.check(((0, 1, 4, 0), (0, 1, 4, 1)), ("flat", 0))
        self.check(((0, 1, 2, 0), (0, 1, 4, 0)), ("flat", 1))
        self.check(((0, 1, 4, 0), (0, 4, 1, 0)), ("flat", 0))
        self.check(((0, 1, 2, 0), (0, 3, 4, 0), (0, 4, 1, 0)), ("flat", 2))
        self.check(((0, 1, 2, 0), (0, 2, 1, 0), (1, 2, 3, 0)), ("arrow", (1, 2)))
        self.check(((0, 1, 2, 0), (0, 1, 3, 0), (1, 2, 4, 0)), ("arrow", (0, 1)))
        self.check(((0, 1, 2, 0), (1, 2, 4, 0), (2, 3, 4, 0)), ("arrow", (1, 2)))
        self.check(((0, 1, 2, 0), (0, 2, 1, 0), (2, 3, 4, 0)), ("alike", 0))

    def test_all_sets_of_a_few_triangles(self):
        chance = random.Random(21)
        trios = [t for t in itertools.permutations(range(5), 3) if t[0] == min(t)]
        seen = set()
        for count in range(1, 8):
            for _ in range(700):
                picked = {trio + (chance.choice((0, 0, 3)),) for trio in chance.sample(trios, count)}
                triangles = tuple(sorted(picked))
                told = fault_in(TABLE, triangles)
                self.assertEqual(told, plain.fault(TABLE, triangles), triangles)
                self.assertIs(is_skin((TABLE, triangles)), told is None)
                seen.add(told and told[0])
        self.assertEqual(seen, {None, "flat", "arrow", "alike", "fan"})

    def test_all_sets_of_triangles_that_are_not_flat(self):
        chance = random.Random(22)
        table = tuple(on_circle(7, 800)) + ((0, 0, 500),)
        trios = [t for t in itertools.permutations(range(8), 3) if t[0] == min(t)]
        seen = set()
        for count in range(2, 7):
            for _ in range(900):
                arrows, triangles = set(), []
                for trio in chance.sample(trios, 40):
                    new = {trio[:2], trio[1:], (trio[2], trio[0])}
                    if len(triangles) < count and not new & arrows:
                        arrows |= new
                        triangles.append(trio + (0,))
                told = fault_in(table, tuple(sorted(triangles)))
                self.assertEqual(told, plain.fault(table, tuple(sorted(triangles))), triangles)
                seen.add(told and told[0])
        self.assertEqual(seen, {None, "alike", "fan"})

    def test_kinds_of_answers(self):
        for triangles in [((0, 1, 4, 0),), ((0, 1, 2, 0), (0, 2, 1, 0)), ((0, 1, 2, 0), (2, 3, 4, 0))]:
            told = fault_in(TABLE, triangles)
            self.assertEqual([type(told), type(told[0]), type(told[1])], [tuple, str, int])
        told = fault_in(TABLE, ((0, 1, 2, 0), (0, 1, 3, 0)))
        self.assertEqual([type(told), type(told[1])], [tuple, tuple])


if __name__ == "__main__":
    unittest.main()
