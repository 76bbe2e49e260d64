"""[6]: parts, rims and handles."""

import unittest

import plain
from forms import (all_forms, beside, box, double_ring, double_tip, holed_ring, make_skin, renumbered, ring, sheet,
                   spread, tip, triangle, tube, turned_over, with_hole)
from things import check_own
from thinskin.nearby import corners_of, rim_ties
from thinskin.shape import handles_of, parts_of, rims_of, shape_of


class Parts(unittest.TestCase):
    def test_by_hand(self):
        self.assertEqual(parts_of(triangle()), [[0, 1, 2]])
        self.assertEqual(parts_of(beside(triangle(), tip())), [[0, 1, 2], [3, 4, 5, 6]])
        self.assertEqual(parts_of(spread(beside(triangle(), triangle()))), [[1, 3, 5], [7, 9, 11]])

    def test_parts_that_lie_in_one_another(self):
        places = [(0, 0, 0), (0, 0, 1), (5, 0, 0), (5, 0, 1), (0, 5, 0), (0, 5, 1)]
        skin = make_skin(places, [(1, 3, 5, 0), (0, 2, 4, 0)])
        self.assertEqual(parts_of(skin), [[0, 2, 4], [1, 3, 5]])
        skin = make_skin(places, [(0, 3, 5, 0), (1, 2, 4, 0)])
        self.assertEqual(parts_of(skin), [[0, 3, 5], [1, 2, 4]])

    def test_all_forms(self):
        for name, skin in all_forms().items():
            told = parts_of(skin)
            self.assertEqual(told, plain.parts(skin), name)
            self.assertEqual(sorted(corner for part in told for corner in part), corners_of(skin))
            self.assertEqual([type(part) for part in told], [list] * len(told))

    def test_what_is_told_is_the_askers_own(self):
        for skin in [triangle(), beside(tip(), sheet(2, 2))]:
            check_own(self, lambda: parts_of(skin))


class Rims(unittest.TestCase):
    def test_none(self):
        for skin in [tip(), double_tip(6), ring(5, 5), box(), beside(tip(), ring(5, 4))]:
            self.assertEqual(rims_of(skin), [])

    def test_one(self):
        self.assertEqual(rims_of(triangle()), [[0, 1, 2]])
        self.assertEqual(rims_of(turned_over(triangle())), [[0, 2, 1]])
        self.assertEqual(rims_of(sheet(2, 2)), [[0, 1, 2, 5, 8, 7, 6, 3]])
        self.assertEqual(rims_of(turned_over(sheet(2, 2))), [[0, 3, 6, 7, 8, 5, 2, 1]])

    def test_two(self):
        self.assertEqual(rims_of(tube(4, 1)), [[0, 1, 2, 3], [4, 7, 6, 5]])
        self.assertEqual(rims_of(beside(triangle(), triangle())), [[0, 1, 2], [3, 4, 5]])
        told = rims_of(with_hole(3, 3))
        self.assertEqual(told, [[0, 1, 2, 3, 7, 11, 15, 14, 13, 12, 8, 4], [5, 9, 10, 6]])

    def test_all_forms(self):
        for name, skin in all_forms().items():
            told = rims_of(skin)
            self.assertEqual([sorted(rim) for rim in told], plain.rims(skin), name)
            arrows = plain.all_arrows(skin)
            walked = []
            for rim in told:
                self.assertIs(type(rim), list)
                self.assertEqual(rim[0], min(rim))
                for one, other in zip(rim, rim[1:] + rim[:1]):
                    self.assertIn((one, other), arrows)
                    self.assertNotIn((other, one), arrows)
                    walked.append((min(one, other), max(one, other)))
            self.assertEqual(sorted(walked), rim_ties(skin))

    def test_what_is_told_is_the_askers_own(self):
        for skin in [triangle(), tube(5, 2), with_hole(3, 3)]:
            check_own(self, lambda: rims_of(skin))


class Shapes(unittest.TestCase):
    def test_handles(self):
        self.assertEqual(handles_of(triangle()), 0)
        self.assertEqual(handles_of(tip()), 0)
        self.assertEqual(handles_of(tube(5, 3)), 0)
        self.assertEqual(handles_of(ring(5, 4)), 1)
        self.assertEqual(handles_of(holed_ring()), 1)
        self.assertEqual(handles_of(double_ring()), 2)
        self.assertEqual(handles_of(beside(ring(5, 4), ring(6, 5))), 2)
        self.assertEqual(handles_of(beside(double_ring(), ring(6, 5))), 3)
        self.assertEqual(handles_of(beside(tip(), tip())), 0)

    def test_shapes(self):
        self.assertEqual(shape_of(triangle()), (1, 1, 0))
        self.assertEqual(shape_of(tip()), (1, 0, 0))
        self.assertEqual(shape_of(tube(6, 2)), (1, 2, 0))
        self.assertEqual(shape_of(ring(6, 5)), (1, 0, 1))
        self.assertEqual(shape_of(holed_ring()), (1, 1, 1))
        self.assertEqual(shape_of(double_ring()), (1, 0, 2))
        self.assertEqual(shape_of(with_hole(5, 4)), (1, 2, 0))
        self.assertEqual(shape_of(beside(tip(), sheet(2, 2))), (2, 1, 0))
        self.assertEqual(shape_of(beside(ring(5, 4), tube(5, 2))), (2, 2, 1))
        self.assertEqual(shape_of(beside(ring(5, 4), beside(holed_ring(), triangle()))), (3, 2, 2))

    def test_all_forms(self):
        for name, skin in all_forms().items():
            told = shape_of(skin)
            self.assertEqual(told, plain.shape(skin), name)
            self.assertEqual([type(told)] + [type(part) for part in told], [tuple, int, int, int])
            self.assertEqual(told, (len(parts_of(skin)), len(rims_of(skin)), handles_of(skin)))

    def test_numbers_of_corners_make_no_difference(self):
        for name, skin in all_forms().items():
            for seed in range(3):
                self.assertEqual(shape_of(renumbered(spread(skin), seed)), shape_of(skin), name)
            self.assertEqual(shape_of(turned_over(skin)), shape_of(skin), name)


if __name__ == "__main__":
    unittest.main()
