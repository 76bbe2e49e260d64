"""[5]: corners, ties, stars and fans."""

import unittest

import plain
from forms import all_forms, beside, double_tip, ring, sheet, spread, tip, triangle, tube, turned_over
from things import check_own
from thinskin.nearby import corners_of, fan_of, rim_ties, star_of, ties_of


class Lists(unittest.TestCase):
    def test_one_triangle(self):
        skin = triangle()
        self.assertEqual(corners_of(skin), [0, 1, 2])
        self.assertEqual(ties_of(skin), [(0, 1), (0, 2), (1, 2)])
        self.assertEqual(rim_ties(skin), [(0, 1), (0, 2), (1, 2)])
        self.assertEqual(ties_of(turned_over(skin)), [(0, 1), (0, 2), (1, 2)])

    def test_a_square(self):
        skin = sheet(1, 1)
        self.assertEqual(skin[1], ((0, 1, 3, 0), (0, 3, 2, 0)))
        self.assertEqual(corners_of(skin), [0, 1, 2, 3])
        self.assertEqual(ties_of(skin), [(0, 1), (0, 2), (0, 3), (1, 3), (2, 3)])
        self.assertEqual(rim_ties(skin), [(0, 1), (0, 2), (1, 3), (2, 3)])

    def test_closed_ones_have_no_rim(self):
        for skin in [tip(), double_tip(5), ring(5, 4)]:
            self.assertEqual(rim_ties(skin), [])
        self.assertEqual(ties_of(tip()), [(0, 1), (0, 2), (0, 3), (1, 2), (1, 3), (2, 3)])

    def test_corners_that_the_skin_has_not(self):
        skin = spread(triangle())
        self.assertEqual(len(skin[0]), 7)
        self.assertEqual(corners_of(skin), [1, 3, 5])
        self.assertEqual(ties_of(skin), [(1, 3), (1, 5), (3, 5)])
        self.assertEqual(rim_ties(skin), [(1, 3), (1, 5), (3, 5)])

    def test_all_forms(self):
        for name, skin in all_forms().items():
            self.assertEqual(corners_of(skin), plain.corners_of(skin), name)
            self.assertEqual(ties_of(skin), plain.ties(skin), name)
            self.assertEqual(rim_ties(skin), plain.rim_ties(skin), name)
            for told in [corners_of(skin), ties_of(skin), rim_ties(skin)]:
                self.assertIs(type(told), list)
                self.assertEqual(told, sorted(set(told)))

    def test_what_is_told_is_the_askers_own(self):
        for skin in [triangle(), sheet(2, 2), ring(5, 4), beside(tip(), tube(5, 1))]:
            check_own(self, lambda: corners_of(skin))
            check_own(self, lambda: ties_of(skin))
            check_own(self, lambda: rim_ties(skin))


class Stars(unittest.TestCase):
    def test_by_hand(self):
        skin = sheet(1, 1)
        self.assertEqual(star_of(skin, 0), ((0, 1, 3, 0), (0, 3, 2, 0)))
        self.assertEqual(star_of(skin, 1), ((0, 1, 3, 0),))
        self.assertEqual(star_of(skin, 2), ((0, 3, 2, 0),))

    def test_a_label_is_no_corner(self):
        skin = (sheet(1, 1)[0], ((0, 1, 3, 2), (0, 3, 2, 1)))
        self.assertEqual(star_of(skin, 1), ((0, 1, 3, 2),))
        self.assertEqual(star_of(skin, 2), ((0, 3, 2, 1),))

    def test_all_forms(self):
        for name, skin in all_forms().items():
            for corner in corners_of(skin):
                told = star_of(skin, corner)
                self.assertIs(type(told), tuple)
                self.assertEqual(told, plain.star(skin, corner), name)
                self.assertEqual(list(told), sorted(set(told)))


class Fans(unittest.TestCase):
    def test_on_a_rim(self):
        self.assertEqual(fan_of(triangle(), 0), [1, 2])
        self.assertEqual(fan_of(triangle(), 1), [2, 0])
        self.assertEqual(fan_of(triangle(), 2), [0, 1])
        self.assertEqual(fan_of(turned_over(triangle()), 0), [2, 1])
        self.assertEqual(fan_of(sheet(1, 1), 0), [1, 3, 2])
        self.assertEqual(fan_of(sheet(1, 1), 3), [2, 0, 1])

    def test_on_no_rim(self):
        skin = sheet(2, 2)
        self.assertEqual(fan_of(skin, 4), [0, 1, 5, 8, 7, 3])
        self.assertEqual(fan_of(turned_over(skin), 4), [0, 3, 7, 8, 5, 1])
        self.assertEqual(fan_of(tip(), 0), [1, 3, 2])
        self.assertEqual(fan_of(tip(), 3), [0, 1, 2])
        self.assertEqual(fan_of(double_tip(5), 5), [0, 1, 2, 3, 4])
        self.assertEqual(fan_of(double_tip(5), 6), [0, 4, 3, 2, 1])

    def test_all_forms(self):
        for name, skin in all_forms().items():
            arrows = plain.all_arrows(skin)
            for corner in corners_of(skin):
                self.check(skin, corner, arrows, name)

    def check(self, skin, corner, arrows, name):
        told = fan_of(skin, corner)
        self.assertIs(type(told), list)
        star = plain.star(skin, corner)
        neighbours = sorted({other for trio in star for other in trio[:3]} - {corner})
        self.assertEqual(sorted(told), neighbours, name)
        facing = [arrow for trio in star for arrow in plain.arrows(trio) if corner not in arrow]
        for pair in zip(told, told[1:]):
            self.assertIn(pair, facing, name)
        on_rim = any(corner in tie for tie in plain.rim_ties(skin))
        if on_rim:
            self.assertEqual(len(told), len(star) + 1)
            self.assertNotIn(told[0], [other for one, other in facing])
        else:
            self.assertEqual(len(told), len(star))
            self.assertIn((told[-1], told[0]), facing)
            self.assertEqual(told[0], min(told))

    def test_what_is_told_is_the_askers_own(self):
        for skin in [triangle(), sheet(2, 2), ring(5, 4)]:
            for corner in corners_of(skin):
                check_own(self, lambda: fan_of(skin, corner))


if __name__ == "__main__":
    unittest.main()
