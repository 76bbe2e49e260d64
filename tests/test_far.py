"""[13] and [14]: nearest points of skins, and how far two skins are from one another."""

import copy
import itertools
import random
import unittest
from fractions import Fraction

import plain_far
from forms import (all_forms, beside, box, bumpy, double_tip, make_skin, renumbered, ring, sheet, spread, tip, triangle,
                   tube)
from things import check_own, odd_things, with_lists, with_others, with_truths
from thinskin.far import both_bounds, bounds_of, farthest_of, is_within, nearest_of, shows_nearest
from thinskin.foot import foot_on, square_to
from thinskin.skins import is_skin
from thinskin.space import compare_two
from thinskin.thinner import Thinner

SMALL = {
    "triangle": triangle(),
    "sheet": sheet(2, 2),
    "bumpy": sheet(2, 2, bumpy(3)),
    "tip": tip(),
    "box": box(),
    "double tip": double_tip(5),
    "tube": tube(4, 1),
    "two": beside(tip(), triangle()),
    "spread": spread(sheet(1, 1)),
}


def moved(skin, x, y, z):
    return (tuple((p + x, q + y, r + z) for p, q, r in skin[0]), skin[1])


def thinned(skin, most):
    thinner = Thinner(skin, ())
    thinner.thin_to(most)
    return thinner.skin_now()


def is_lowest(fraction):
    n, d = fraction
    kinds = type(fraction) is tuple and type(n) is int and type(d) is int
    return kinds and d > 0 and plain_far.pair(Fraction(n, d)) == fraction


class Nearest(unittest.TestCase):
    def test_by_hand(self):
        skin = sheet(1, 1)
        self.assertEqual(skin[1], ((0, 1, 3, 0), (0, 3, 2, 0)))
        self.assertEqual(nearest_of(skin, (8, 2, 3)), ((9, 1), (0, 1, 3, 0), ((8, 1), (2, 1), (0, 1))))
        self.assertEqual(nearest_of(skin, (2, 8, -4)), ((16, 1), (0, 3, 2, 0), ((2, 1), (8, 1), (0, 1))))
        self.assertEqual(nearest_of(skin, (13, 14, 0)), ((25, 1), (0, 1, 3, 0), ((10, 1), (10, 1), (0, 1))))
        self.assertEqual(nearest_of(triangle(), (3, 4, 1)), ((11, 2), (0, 1, 2, 0), ((3, 2), (5, 2), (0, 1))))

    def test_of_several_the_least(self):
        skin = sheet(2, 2)
        self.assertEqual(nearest_of(skin, (10, 10, 7)), ((49, 1), (0, 1, 4, 0), ((10, 1), (10, 1), (0, 1))))
        self.assertEqual(nearest_of(skin, (15, 15, 0)), ((0, 1), (4, 5, 8, 0), ((15, 1), (15, 1), (0, 1))))
        self.assertEqual(nearest_of(skin, (25, 25, 0)), ((50, 1), (4, 5, 8, 0), ((20, 1), (20, 1), (0, 1))))
        # Of the like places of two parts the lesser triangle.
        two = beside(skin, skin)
        for vector in [(1, 2, 3), (17, 4, 9), (10, 10, 10), (-3, -3, 0)]:
            self.assertEqual(nearest_of(two, vector), nearest_of(skin, vector))
        # As near from two sides, at unlike points.
        sides = beside(moved(triangle(), 0, 0, 5), moved(triangle(), 0, 0, -5))
        self.assertEqual(nearest_of(sides, (1, 1, 0)), ((25, 1), (0, 1, 2, 0), ((1, 1), (1, 1), (5, 1))))
        sides = beside(moved(triangle(), 0, 0, -5), moved(triangle(), 0, 0, 5))
        self.assertEqual(nearest_of(sides, (1, 1, 0)), ((25, 1), (0, 1, 2, 0), ((1, 1), (1, 1), (-5, 1))))

    def test_as_the_flakes_tell(self):
        chance = random.Random(41)
        for name, skin in all_forms().items():
            for _ in range(6):
                vector = tuple(chance.randint(-60, 60) for _ in range(3))
                square, trio, point = nearest_of(skin, vector)
                flake = plain_far.flake(skin, trio)
                self.assertIn(trio, skin[1])
                self.assertEqual(square, square_to(flake, vector), name)
                self.assertEqual(point, foot_on(flake, vector), name)
                for other in skin[1]:
                    order = compare_two(square, square_to(plain_far.flake(skin, other), vector))
                    self.assertLessEqual(order, 0 if other >= trio else -1, name)

    def test_told_over_again(self):
        chance = random.Random(42)
        for name, skin in SMALL.items():
            for reach in [3, 30, 1000, 10 ** 20]:
                for _ in range(8):
                    vector = tuple(chance.randint(-reach, reach) for _ in range(3))
                    told = nearest_of(skin, vector)
                    self.assertEqual(told, plain_far.nearest(skin, vector), (name, vector))
                    self.assertTrue(all(is_lowest(one) for one in (told[0],) + told[2]))
                    self.assertIs(type(told), tuple)
                    self.assertIs(type(told[2]), tuple)

    def test_at_corners_and_on_ties(self):
        for name, skin in SMALL.items():
            for number, place in enumerate(skin[0]):
                if number in {k for trio in skin[1] for k in trio[:3]}:
                    square, trio, point = nearest_of(skin, place)
                    self.assertEqual(square, (0, 1))
                    self.assertEqual(point, tuple((x, 1) for x in place))
                    self.assertEqual((square, trio, point), plain_far.nearest(skin, place), name)

    def test_vectors_far_off(self):
        far = 10 ** 40
        skin = ring(5, 4)
        for vector in [(far, 0, 0), (-far, far, 1), (far, far + 1, -far), (0, 0, far)]:
            self.assertEqual(nearest_of(skin, vector), plain_far.nearest(skin, vector))
        square, trio, point = nearest_of(sheet(1, 1), (far, 0, 0))
        self.assertEqual((square, trio), (((far - 10) * (far - 10), 1), (0, 1, 3, 0)))


class ShowsNearest(unittest.TestCase):
    def test_what_is_told(self):
        for name, skin in all_forms().items():
            for vector in [(0, 0, 0), (11, 7, 5), (-300, 200, 100)]:
                self.assertIs(shows_nearest(skin, vector, nearest_of(skin, vector)), True, name)

    def test_any_part_otherwise(self):
        for vector in [(3, 4, 1), (1, 1, 0), (10 ** 15, 1, 1)]:
            told = nearest_of(triangle(), vector)
            for thing in with_others(told):
                before = copy.deepcopy(thing)
                self.assertIs(shows_nearest(triangle(), vector, thing), repr(thing) == repr(told), repr(thing))
                self.assertEqual(repr(thing), repr(before))

    def test_true_in_the_place_of_one(self):
        skin = make_skin([(0, 0, 0), (3, 0, 0), (0, 3, 0)], [(0, 1, 2, 1)])
        told = nearest_of(skin, (1, 1, 1))
        self.assertEqual(told, ((1, 1), (0, 1, 2, 1), ((1, 1), (1, 1), (0, 1))))
        found = list(with_truths(told))
        self.assertEqual(len(found), 11)
        for thing in found:
            self.assertEqual(thing, told)
            self.assertIs(shows_nearest(skin, (1, 1, 1), thing), False, repr(thing))

    def test_lists_in_the_place_of_tuples(self):
        skin = sheet(2, 2)
        told = nearest_of(skin, (4, 5, 6))
        for thing in with_lists(told):
            self.assertIs(shows_nearest(skin, (4, 5, 6), thing), False, repr(thing))

    def test_the_same_point_with_another_triangle(self):
        skin = sheet(2, 2)
        square, trio, point = nearest_of(skin, (10, 10, 7))
        for other in skin[1]:
            self.assertIs(shows_nearest(skin, (10, 10, 7), (square, other, point)), other == trio)

    def test_not_in_lowest_terms(self):
        (n, d), trio, point = nearest_of(triangle(), (3, 4, 1))
        for by in [-1, 2, 3]:
            self.assertIs(shows_nearest(triangle(), (3, 4, 1), ((by * n, by * d), trio, point)), False)
            other = ((by * point[0][0], by * point[0][1]),) + point[1:]
            self.assertIs(shows_nearest(triangle(), (3, 4, 1), ((n, d), trio, other)), False)

    def test_odd_things(self):
        skin = sheet(2, 2)
        square, trio, point = nearest_of(skin, (1, 2, 3))
        for odd in odd_things():
            for thing in [odd, (odd, trio, point), (square, odd, point), (square, trio, odd), (odd,) * 3,
                          (square, trio, point, odd), (square, trio[:3] + (odd,), point), ((odd, 1), trio, point)]:
                told = repr(thing) == repr((square, trio, point))
                self.assertIs(shows_nearest(skin, (1, 2, 3), thing), told, repr(thing)[:80])


class Farthest(unittest.TestCase):
    def test_by_hand(self):
        flat = sheet(2, 2)
        self.assertEqual(farthest_of(flat, flat), ((0, 1), 0))
        self.assertEqual(farthest_of(moved(flat, 0, 0, 3), flat), ((9, 1), 0))
        self.assertEqual(farthest_of(sheet(2, 2, lambda x, y: 5 * (x == 1 == y)), flat), ((25, 1), 4))
        self.assertEqual(farthest_of(flat, sheet(2, 1)), ((100, 1), 6))
        self.assertEqual(farthest_of(sheet(2, 1), flat), ((0, 1), 0))

    def test_of_several_the_least(self):
        flat = sheet(2, 2)
        bent = sheet(2, 2, lambda x, y: 4 * ((x, y) in [(1, 0), (2, 1), (0, 2)]))
        self.assertEqual(farthest_of(bent, flat), ((16, 1), 1))
        both = sheet(2, 2, lambda x, y: {(2, 0): -7, (1, 2): 7}.get((x, y), 0))
        self.assertEqual(farthest_of(both, flat), ((49, 1), 2))

    def test_corners_in_no_triangle(self):
        flat = sheet(2, 2)
        one = (((900, 900, 900),) + flat[0] + ((-900, 0, 5),), tuple(
            (a + 1, b + 1, c + 1, label) for a, b, c, label in flat[1]))
        self.assertIs(is_skin(one), True)
        self.assertEqual(farthest_of(one, flat), ((0, 1), 1))
        self.assertEqual(farthest_of(one, sheet(2, 1)), ((100, 1), 7))
        # Corners of the other table that no triangle has are not near, either.
        other = (sheet(2, 1)[0] + flat[0], sheet(2, 1)[1])
        self.assertEqual(farthest_of(flat, other), ((100, 1), 6))

    def test_told_over_again(self):
        for (name, one), (beside_, other) in itertools.product(SMALL.items(), repeat=2):
            told = farthest_of(one, other)
            self.assertEqual(told, plain_far.farthest(one, other), (name, beside_))
            self.assertEqual([type(told), type(told[1])], [tuple, int])
            self.assertTrue(is_lowest(told[0]))

    def test_as_nearest_of_tells(self):
        for one, other in [(ring(6, 5), thinned(ring(6, 5), 30)), (sheet(4, 4, bumpy(5)), sheet(4, 4))]:
            square, corner = farthest_of(one, other)
            self.assertEqual(nearest_of(other, one[0][corner])[0], square)
            for place in one[0]:
                self.assertLessEqual(compare_two(nearest_of(other, place)[0], square), 0)

    def test_the_largest(self):
        skin = ring(12, 10)
        self.assertEqual(farthest_of(skin, skin), ((0, 1), 0))


class Bounds(unittest.TestCase):
    def test_by_hand(self):
        flat = sheet(1, 1)
        for halvings in range(4):
            self.assertEqual(bounds_of(flat, flat, halvings), ((0, 1), (0, 1)))
            self.assertEqual(bounds_of(moved(flat, 0, 0, 6), flat, halvings), ((36, 1), (36, 1)))
        # All of the long one is near, but no piece is as near to one triangle alone.
        long = make_skin([(0, 0, 0), (20, 0, 0), (0, 10, 0)], [(0, 1, 2, 0)])
        low, high = bounds_of(long, sheet(2, 1), 0)
        self.assertEqual(low, (0, 1))
        self.assertGreater(high, (0, 1))

    def test_high_is_of_one_triangle_for_all_three_corners(self):
        # A triangle over the tie of two others: each corner is at one of them, none at both.
        other = make_skin([(0, 0, 0), (10, 0, 0), (0, 10, 0), (10, 10, 0)], [(0, 1, 3, 0), (0, 3, 2, 0)])
        one = make_skin([(10, 0, 0), (10, 10, 0), (0, 10, 0)], [(0, 1, 2, 0)])
        self.assertEqual(bounds_of(one, other, 0), ((0, 1), (50, 1)))
        self.assertEqual(bounds_of(one, other, 1), ((0, 1), (25, 2)))

    def test_told_over_again(self):
        skins = [SMALL[name] for name in ["triangle", "bumpy", "tip", "two", "spread"]]
        for one, other in itertools.permutations(skins, 2):
            for halvings in range(3):
                self.check(one, other, halvings)
        self.check(triangle(), moved(tip(), 1, 2, 3), 3)
        self.check(moved(tip(), -1, 2, 1), triangle(), 3)
        self.check(sheet(1, 1, bumpy(1)), tip(), 3)
        self.check(box(), double_tip(5), 1)
        self.check(ring(4, 3), thinned(ring(4, 3), 20), 1)

    def check(self, one, other, halvings):
        told = bounds_of(one, other, halvings)
        self.assertEqual(told, plain_far.bounds(one, other, halvings))
        self.assertIs(type(told), tuple)
        self.assertTrue(all(is_lowest(bound) for bound in told))

    def test_halvings_never_make_bounds_wider(self):
        pairs = [(sheet(3, 3, bumpy(2)), thinned(sheet(3, 3, bumpy(2)), 6)), (box(), tip()), (tube(5, 2), tube(4, 1)),
                 (double_tip(6), thinned(double_tip(6), 8)), (moved(tip(), 3, 1, 0), tip())]
        narrower = 0
        for one, other in pairs:
            for ask in [bounds_of, both_bounds]:
                told = [ask(one, other, halvings) for halvings in range(4)]
                for low, high in told:
                    self.assertLessEqual(compare_two(low, high), 0)
                for (low, high), (next_low, next_high) in zip(told, told[1:]):
                    self.assertLessEqual(compare_two(low, next_low), 0)
                    self.assertLessEqual(compare_two(next_high, high), 0)
                    narrower += low != next_low
                    narrower += high != next_high
        self.assertGreater(narrower, 10)

    def test_no_point_is_further_than_high(self):
        chance = random.Random(43)
        for one, other in [(sheet(2, 2, bumpy(2)), tip()), (double_tip(5), thinned(double_tip(6), 8))]:
            for halvings in range(3):
                low, high = [Fraction(*bound) for bound in bounds_of(one, other, halvings)]
                for _ in range(60):
                    shares = [Fraction(chance.randint(0, 9)) for _ in range(3)]
                    shares[chance.randrange(3)] += 1
                    shares = [share / sum(shares) for share in shares]
                    point = plain_far.mixed(plain_far.flake(one, chance.choice(one[1])), shares)
                    self.assertLessEqual(plain_far.least_square(other, point), high)

    def test_a_skin_from_itself(self):
        for name, skin in all_forms().items():
            if len(skin[1]) <= 80:
                for halvings in [0, 1]:
                    self.assertEqual(bounds_of(skin, skin, halvings), ((0, 1), (0, 1)), name)
                    self.assertEqual(both_bounds(skin, skin, halvings), ((0, 1), (0, 1)), name)

    def test_a_skin_moved(self):
        for skin in [sheet(3, 2), sheet(2, 2, bumpy(7)), tip()]:
            for halvings in range(3):
                low, high = bounds_of(moved(skin, 3, -4, 12), skin, halvings)
                self.assertLessEqual(compare_two(high, (169, 1)), 0)
        self.assertEqual(bounds_of(moved(tip(), 500, 0, 0), tip(), 0), ((500 * 500, 1), (500 * 500, 1)))

    def test_corners_in_no_triangle(self):
        for halvings in range(2):
            told = bounds_of(sheet(1, 1), tip(), halvings)
            self.assertEqual(bounds_of(spread(sheet(1, 1), 2), tip(), halvings), told)
            self.assertEqual(bounds_of(sheet(1, 1), spread(tip()), halvings), told)

    def test_the_largest(self):
        one = ring(8, 5)
        other = thinned(one, 60)
        self.assertEqual(len(one[1]), 80)
        told = [both_bounds(one, other, halvings) for halvings in range(3)]
        self.assertEqual(told[0], both_bounds(other, one, 0))
        self.assertLessEqual(compare_two(told[2][0], told[2][1]), 0)
        self.assertLess(compare_two(told[2][1], told[0][1]), 0)

    def test_the_order_of_corners_is_not_seen(self):
        one, other = sheet(3, 3, bumpy(4)), sheet(3, 2, bumpy(5))
        for seed in range(3):
            self.assertEqual(bounds_of(renumbered(one, seed), renumbered(other, seed), 1), bounds_of(one, other, 1))


class Both(unittest.TestCase):
    def test_the_greater_of_each(self):
        for one, other in [(sheet(2, 2), sheet(2, 1)), (sheet(2, 1), sheet(2, 2)), (tip(), box()), (box(), tip()),
                           (triangle(), tip()), (sheet(2, 2, bumpy(1)), triangle())]:
            for halvings in range(3):
                ways = [bounds_of(one, other, halvings), bounds_of(other, one, halvings)]
                low = plain_far.pair(max(Fraction(*way[0]) for way in ways))
                high = plain_far.pair(max(Fraction(*way[1]) for way in ways))
                self.assertEqual(both_bounds(one, other, halvings), (low, high))
                self.assertEqual(both_bounds(other, one, halvings), (low, high))
        self.assertEqual(both_bounds(sheet(2, 1), sheet(2, 2), 0), ((100, 1), (100, 1)))
        self.assertEqual(bounds_of(sheet(2, 1), sheet(2, 2), 0), ((0, 1), (0, 1)))

    def test_low_and_high_from_either_way(self):
        # The bump is far from the square; the square's halves are far from each small triangle.
        fine = sheet(4, 4, lambda x, y: 3 * (x == 2 == y))
        square = make_skin([(0, 0, 0), (40, 0, 0), (0, 40, 0), (40, 40, 0)], [(0, 1, 3, 0), (0, 3, 2, 0)])
        self.assertEqual(bounds_of(fine, square, 0), ((9, 1), (9, 1)))
        low, high = bounds_of(square, fine, 0)
        self.assertEqual(low, (0, 1))
        self.assertGreater(compare_two(high, (9, 1)), 0)
        self.assertEqual(both_bounds(fine, square, 0), ((9, 1), high))
        self.assertEqual(both_bounds(square, fine, 0), ((9, 1), high))
        for square_, word in [((8, 1), "no"), ((9, 1), "open"), ((10, 1), "open"), (high, "yes")]:
            self.assertEqual(is_within(fine, square, 0, square_), word)

    def test_is_within(self):
        pairs = [(sheet(2, 2, bumpy(2)), tip()), (double_tip(5), thinned(double_tip(6), 8)), (tip(), box())]
        seen = set()
        for one, other in pairs:
            for halvings in range(3):
                low, high = [Fraction(*bound) for bound in both_bounds(one, other, halvings)]
                tiny = Fraction(1, 10 ** 30)
                asked = [low, high, low - tiny, low + tiny, high - tiny, high + tiny, (low + high) / 2, high * 10,
                         Fraction(0), Fraction(-1)]
                for square in asked:
                    word = "yes" if high <= square else "no" if low > square else "open"
                    told = is_within(one, other, halvings, plain_far.pair(square))
                    self.assertEqual(told, word)
                    self.assertEqual(is_within(other, one, halvings, plain_far.pair(square)), word)
                    seen.add(word)
        self.assertEqual(seen, {"yes", "no", "open"})

    def test_just_low_and_just_high(self):
        one, other = double_tip(5), thinned(double_tip(6), 8)
        low, high = both_bounds(one, other, 0)
        self.assertLess(compare_two(low, high), 0)
        self.assertEqual(is_within(one, other, 0, low), "open")
        self.assertEqual(is_within(one, other, 0, high), "yes")
        flat = sheet(1, 1)
        self.assertEqual(is_within(flat, flat, 0, (0, 1)), "yes")
        self.assertEqual(is_within(flat, moved(flat, 0, 0, 2), 1, (4, 1)), "yes")
        self.assertEqual(is_within(flat, moved(flat, 0, 0, 2), 1, (39, 10)), "no")

    def test_what_is_told_is_the_same_again(self):
        one, other = sheet(2, 2, bumpy(2)), tip()
        for ask in [lambda: nearest_of(one, (1, 2, 3)), lambda: farthest_of(one, other),
                    lambda: bounds_of(one, other, 1), lambda: both_bounds(one, other, 1)]:
            check_own(self, ask)


if __name__ == "__main__":
    unittest.main()
