"""[10]: planes, and prices of drawings."""

import copy
import random
import unittest

import plain
from forms import (all_forms, beside, bumpy, double_tip, make_skin, renumbered, ring, sheet, spread, tip, triangle,
                   wheel)
from things import check_own
from thinskin.drawing import drawn_skin
from thinskin.prices import planes_of, price_at, prices_of

# A low roof: corner 0 above the middle of a square.
ROOF = make_skin(
    [(0, 0, 1), (2, 0, 0), (0, 2, 0), (-2, 0, 0), (0, -2, 0)],
    [(0, 1, 2, 0), (0, 2, 3, 0), (0, 3, 4, 0), (0, 4, 1, 0)])


class Planes(unittest.TestCase):
    def test_one_triangle(self):
        plane = ((0, 0, 16), 0)
        self.assertEqual(planes_of(triangle()), [[plane], [plane], [plane]])
        high = make_skin([(0, 0, 5), (4, 0, 5), (0, 4, 5)], [(0, 1, 2, 0)])
        self.assertEqual(planes_of(high), [[((0, 0, 16), 80)]] * 3)

    def test_a_roof(self):
        one, two, three, four = [((2, 2, 4), 4), ((-2, 2, 4), 4), ((2, -2, 4), 4), ((-2, -2, 4), 4)]
        self.assertEqual(ROOF[1], ((0, 1, 2, 0), (0, 2, 3, 0), (0, 3, 4, 0), (0, 4, 1, 0)))
        self.assertEqual(planes_of(ROOF), [[one, two, four, three], [one, three], [one, two], [two, four],
                                           [four, three]])

    def test_corners_that_the_skin_has_not(self):
        plane = ((0, 0, 16), 0)
        self.assertEqual(planes_of(spread(triangle())), [[], [plane], [], [plane], [], [plane], []])

    def test_all_forms(self):
        for name, skin in all_forms().items():
            told = planes_of(skin)
            self.assertEqual(told, plain.planes(skin), name)
            for one in told:
                self.assertIs(type(one), list)
                for plane in one:
                    self.assertEqual([type(part) for part in plane], [tuple, int])

    def test_what_is_told_is_the_askers_own(self):
        for skin in [triangle(), ROOF, spread(tip()), ring(4, 4)]:
            check_own(self, lambda: planes_of(skin))


class Prices(unittest.TestCase):
    def test_price_at(self):
        self.assertEqual(price_at([], (1, 2, 3)), 0)
        self.assertEqual(price_at([((0, 0, 16), 0)], (1, 1, 2)), 1024)
        self.assertEqual(price_at([((0, 0, 16), 32)], (1, 1, 2)), 0)
        self.assertEqual(price_at([((1, 2, 3), 4), ((0, 0, 16), 0)], (1, 1, 1)), 4 + 256)
        self.assertEqual(price_at([((1, 2, 3), 4)] * 3, (1, 1, 1)), 12)
        self.assertEqual(price_at([((1, 2, 3), -4)], (-1, -1, -1)), 4)

    def test_large_ones_are_exact(self):
        far = [((4 * 10 ** 6 + 1, -4 * 10 ** 6, 4 * 10 ** 6 - 1), 12 * 10 ** 9 + 7)]
        place = (1000, -1000, 999)
        gap = (4 * 10 ** 6 + 1) * 1000 + 4 * 10 ** 9 + (4 * 10 ** 6 - 1) * 999 - 12 * 10 ** 9 - 7
        self.assertEqual(price_at(far, place), gap ** 2)
        big = 10 ** 40
        self.assertEqual(price_at([((big, 0, 0), 1)], (3, 0, 0)), (3 * big - 1) ** 2)

    def test_planes_stay_as_they_were(self):
        for skin in [ROOF, ring(5, 4)]:
            planes = planes_of(skin)
            kept = copy.deepcopy(planes)
            prices_of(skin, (), planes)
            price_at(planes[0], (1, 2, 3))
            self.assertEqual(planes, kept)

    def test_a_roof(self):
        # Corner 1, at (2, 0, 0), is 8 off each of the two planes of the far side, and on
        # those that it has itself.
        self.assertEqual(prices_of(ROOF, (), planes_of(ROOF)), [
            (128, 0, 1), (128, 0, 2), (128, 0, 3), (128, 0, 4)])

    def test_planes_in_common_count_twice(self):
        skin = wheel([(2, 0, 0), (0, 2, 0), (-2, 0, 0), (0, -2, 0)], [0] * 4)
        planes = [[((0, 0, 1), 3)], [((0, 0, 1), 3), ((0, 0, 1), 0)], [], [], [((0, 0, 1), 1)]]
        self.assertEqual(prices_of(skin, (), planes), [(9, 0, 2), (9, 0, 3), (10, 0, 4), (18, 0, 1)])

    def test_flat_ones_cost_nought(self):
        for skin in [sheet(3, 3), renumbered(sheet(4, 2), 5), beside(sheet(2, 2), sheet(2, 2))]:
            told = prices_of(skin, (), planes_of(skin))
            self.assertTrue(told)
            self.assertEqual({price for price, b, a in told}, {0})
            self.assertEqual(told, sorted(told))

    def test_none(self):
        self.assertEqual(prices_of(triangle(), (), planes_of(triangle())), [])
        self.assertEqual(prices_of(tip(), (), planes_of(tip())), [])

    def test_corners_that_stay(self):
        planes = planes_of(ROOF)
        self.assertEqual(prices_of(ROOF, (0,), planes), [])
        self.assertEqual(len(prices_of(ROOF, (1, 2, 3), planes)), 4)
        skin = sheet(3, 3, bumpy(3))
        planes = planes_of(skin)
        for stay in [(5,), (5, 6), (0, 1, 9, 10)]:
            told = prices_of(skin, stay, planes)
            self.assertEqual(told, [one for one in prices_of(skin, (), planes) if one[1] not in stay])

    def test_order_of_like_prices(self):
        skin = double_tip(6)
        told = prices_of(skin, (), planes_of(skin))
        self.assertEqual(told, sorted(told))
        prices = [price for price, b, a in told]
        self.assertLess(len(set(prices)), len(prices))

    def test_all_forms(self):
        chance = random.Random(41)
        for name, skin in all_forms().items():
            planes = planes_of(skin)
            some = tuple(sorted(chance.sample(range(len(skin[0])), 2)))
            for stay in [(), some, tuple(range(len(skin[0])))]:
                told = prices_of(skin, stay, planes)
                self.assertIs(type(told), list)
                self.assertEqual(told, plain.prices(skin, stay, planes), name)
                for one in told:
                    self.assertEqual([type(one)] + [type(part) for part in one], [tuple, int, int, int])

    def test_other_planes_than_its_own(self):
        for name in ["ring", "bumpy sheet", "shuffled sheet"]:
            skin = all_forms()[name]
            first = planes_of(skin)
            behind = drawn_skin(skin, (), *plain.prices(skin, (), first)[0][1:])[0]
            self.assertEqual(prices_of(behind, (), first), plain.prices(behind, (), first))
            none = [[] for _ in skin[0]]
            self.assertEqual({price for price, b, a in prices_of(skin, (), none)}, {0})

    def test_what_is_told_is_the_askers_own(self):
        for skin in [ROOF, ring(5, 4)]:
            planes = planes_of(skin)
            check_own(self, lambda: prices_of(skin, (), planes))


if __name__ == "__main__":
    unittest.main()
