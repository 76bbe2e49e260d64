"""[7]: marked ties, kinds of corners, lines."""

import unittest

import plain
from forms import (all_forms, beside, box, make_skin, relabelled, renumbered, ring, sheet, spread, tip, triangle, tube,
                   turned_over, wheel)
from things import check_own
from thinskin.marks import kind_of, lines_of, marked_ties
from thinskin.nearby import corners_of, rim_ties, ties_of


def halves():
    return sheet(4, 4, label=lambda x, y: int(x >= 2))


def island():
    """A sheet of label 2 with a square of label 7 in it."""
    return sheet(5, 5, label=lambda x, y: 7 if x in (1, 2, 3) and y in (1, 2, 3) else 2)


def folded_rim(far):
    """Two triangles at corner 0, whose ties on the rim lie on one another, to 10 and to far."""
    return make_skin([(0, 0, 0), (10, 0, 0), (0, 10, 0), (far, 0, 0)], [(0, 1, 2, 0), (0, 2, 3, 0)])


ROUND = [(10, 0, 0), (10, 10, 0), (0, 10, 0), (-10, 0, 0), (0, -10, 0)]


class MarkedTies(unittest.TestCase):
    def test_rims(self):
        self.assertEqual(marked_ties(triangle()), [(0, 1), (0, 2), (1, 2)])
        for skin in [sheet(3, 3), tube(5, 2), beside(tip(), triangle())]:
            self.assertEqual(marked_ties(skin), rim_ties(skin))
        for skin in [tip(), ring(5, 4), box()]:
            self.assertEqual(marked_ties(skin), [])

    def test_seams(self):
        skin = make_skin(sheet(1, 1)[0], [(0, 1, 3, 0), (0, 3, 2, 1)])
        self.assertEqual(marked_ties(skin), [(0, 1), (0, 2), (0, 3), (1, 3), (2, 3)])
        skin = make_skin(sheet(1, 1)[0], [(0, 1, 3, 5), (0, 3, 2, 5)])
        self.assertEqual(marked_ties(skin), [(0, 1), (0, 2), (1, 3), (2, 3)])
        skin = halves()
        seam = [(k, k + 5) for k in (2, 7, 12, 17)]
        self.assertEqual(marked_ties(skin), sorted(rim_ties(skin) + seam))

    def test_each_triangle_of_its_own_label(self):
        places, triangles = tip()
        skin = (places, tuple(trio[:3] + (k,) for k, trio in enumerate(triangles)))
        self.assertEqual(marked_ties(skin), ties_of(skin))

    def test_all_forms(self):
        for name, skin in all_forms().items():
            told = marked_ties(skin)
            self.assertIs(type(told), list)
            self.assertEqual(told, plain.marked(skin), name)

    def test_what_is_told_is_the_askers_own(self):
        for skin in [triangle(), halves(), island()]:
            check_own(self, lambda: marked_ties(skin))
            check_own(self, lambda: lines_of(skin))


class Kinds(unittest.TestCase):
    def test_a_sheet(self):
        skin = sheet(2, 2)
        told = [kind_of(skin, corner) for corner in range(9)]
        self.assertEqual(told, ["fixed", "line", "fixed", "line", "free", "line", "fixed", "line", "fixed"])

    def test_a_seam(self):
        skin = halves()
        self.assertEqual([kind_of(skin, k) for k in (2, 7, 12, 17, 22)], ["fixed", "line", "line", "line", "fixed"])
        self.assertEqual([kind_of(skin, k) for k in (1, 6, 8, 0)], ["line", "free", "free", "fixed"])

    def test_closed_ones_of_one_label(self):
        for skin in [tip(), ring(5, 4), box()]:
            self.assertEqual({kind_of(skin, corner) for corner in corners_of(skin)}, {"free"})

    def test_folded_back(self):
        for far in [5, 10, 20]:
            self.assertEqual(kind_of(folded_rim(far), 0), "fixed", far)
        self.assertEqual(kind_of(folded_rim(-5), 0), "line")
        self.assertEqual(kind_of(folded_rim(-10), 0), "line")
        skin = make_skin([(0, 0, 0), (10, 0, 0), (0, 10, 0), (-10, 1, 0)], [(0, 1, 2, 0), (0, 2, 3, 0)])
        self.assertEqual(kind_of(skin, 0), "fixed")

    def test_a_folded_seam(self):
        places = [(10, 0, 0), (5, 5, 3), (20, 0, 0), (5, -5, 3)]
        skin = wheel(places, [1, 1, 2, 2])
        self.assertEqual(marked_ties(skin)[:2], [(0, 1), (0, 3)])
        self.assertEqual(kind_of(skin, 0), "fixed")
        skin = wheel(places[:2] + [(-20, 0, 0)] + places[3:], [1, 1, 2, 2])
        self.assertEqual(kind_of(skin, 0), "line")

    def test_seams_in_a_wheel(self):
        self.assertEqual(kind_of(wheel(ROUND, [0, 0, 0, 0, 0]), 0), "free")
        self.assertEqual(kind_of(wheel(ROUND, [0, 0, 0, 1, 1]), 0), "line")
        self.assertEqual(kind_of(wheel(ROUND, [1, 0, 0, 1, 1]), 0), "fixed")
        self.assertEqual(kind_of(wheel(ROUND, [0, 0, 0, 1, 2]), 0), "fixed")
        self.assertEqual(kind_of(wheel(ROUND, [0, 1, 0, 1, 2]), 0), "fixed")
        self.assertEqual(kind_of(wheel(ROUND, [0, 0, 1, 2, 2]), 0), "fixed")

    def test_straight_in_space(self):
        for p, q in [((2, 4, 6), (-1, -2, -3)), ((1, 2, 3), (-200, -400, -600)), ((1, 1, 1), (-1, -1, -1))]:
            skin = make_skin([(0, 0, 0), p, (0, 10, 0), q], [(0, 1, 2, 0), (0, 2, 3, 0)])
            self.assertEqual(kind_of(skin, 0), "line")
            nearly = (q[0], q[1], q[2] + 1)
            skin = make_skin([(0, 0, 0), p, (0, 10, 0), nearly], [(0, 1, 2, 0), (0, 2, 3, 0)])
            self.assertEqual(kind_of(skin, 0), "fixed")

    def test_all_forms(self):
        seen = set()
        for name, skin in all_forms().items():
            for corner in corners_of(skin):
                told = kind_of(skin, corner)
                self.assertEqual(told, plain.kind(skin, corner), (name, corner))
                seen.add(told)
        self.assertEqual(seen, {"free", "line", "fixed"})


class Lines(unittest.TestCase):
    def test_one_triangle(self):
        self.assertEqual(lines_of(triangle()), [
            ((0, 0, 0), (0, 4, 0), -1, 0), ((0, 0, 0), (4, 0, 0), 0, -1), ((0, 4, 0), (4, 0, 0), -1, 0)])
        self.assertEqual(lines_of(turned_over(triangle())), [
            ((0, 0, 0), (0, 4, 0), 0, -1), ((0, 0, 0), (4, 0, 0), -1, 0), ((0, 4, 0), (4, 0, 0), 0, -1)])

    def test_a_sheet(self):
        self.assertEqual(lines_of(sheet(4, 3)), [
            ((0, 0, 0), (0, 30, 0), -1, 0), ((0, 0, 0), (40, 0, 0), 0, -1),
            ((0, 30, 0), (40, 30, 0), -1, 0), ((40, 0, 0), (40, 30, 0), 0, -1)])

    def test_a_seam(self):
        told = [
            ((0, 0, 0), (0, 40, 0), -1, 0), ((0, 0, 0), (20, 0, 0), 0, -1), ((0, 40, 0), (20, 40, 0), -1, 0),
            ((20, 0, 0), (20, 40, 0), 0, 1), ((20, 0, 0), (40, 0, 0), 1, -1), ((20, 40, 0), (40, 40, 0), -1, 1),
            ((40, 0, 0), (40, 40, 0), 1, -1)]
        self.assertEqual(lines_of(halves()), told)
        for seed in range(4):
            self.assertEqual(lines_of(renumbered(spread(halves()), seed)), told)

    def test_seams_that_go_all_round(self):
        told = lines_of(island())
        self.assertEqual([line for line in told if -1 not in line[2:]], [
            ((10, 10, 0), (10, 40, 0), 2, 7), ((10, 10, 0), (40, 10, 0), 7, 2),
            ((10, 40, 0), (40, 40, 0), 2, 7), ((40, 10, 0), (40, 40, 0), 7, 2)])
        self.assertEqual(len(told), 8)
        skin = tube(6, 4, lambda z: z // 2)
        told = lines_of(skin)
        self.assertEqual(len(told), 18)
        seam = [line for line in told if sorted(line[2:]) == [0, 1]]
        self.assertEqual(len(seam), 6)
        self.assertEqual({line[k][2] for line in seam for k in (0, 1)}, {80})

    def test_seams_all_round_a_closed_form(self):
        told = lines_of(box(lambda side: side))
        self.assertEqual(len(told), 12)
        self.assertEqual(lines_of(box()), [])
        self.assertEqual(len(lines_of(box(lambda side: int(side == 3)))), 4)

    def test_lines_that_are_alike(self):
        for one in [triangle(), sheet(2, 3), island()]:
            twice = sorted(lines_of(one) * 2)
            self.assertEqual(lines_of(beside(one, one)), twice)
        both = beside(triangle(), turned_over(triangle()))
        self.assertEqual(lines_of(both), sorted(lines_of(triangle()) + lines_of(turned_over(triangle()))))

    def test_folded_back_lines_are_not_put_together(self):
        told = lines_of(folded_rim(20))
        self.assertEqual(told, [
            ((0, 0, 0), (10, 0, 0), 0, -1), ((0, 0, 0), (20, 0, 0), -1, 0), ((0, 10, 0), (10, 0, 0), -1, 0),
            ((0, 10, 0), (20, 0, 0), 0, -1)])
        self.assertEqual(len(lines_of(folded_rim(-20))), 3)

    def test_kinds_of_answers(self):
        for line in lines_of(island()):
            self.assertEqual([type(part) for part in line], [tuple, tuple, int, int])
            self.assertLess(line[0], line[1])

    def test_all_forms(self):
        for name, skin in all_forms().items():
            told = lines_of(skin)
            self.assertIs(type(told), list)
            self.assertEqual(told, plain.lines(skin), name)
            self.assertEqual(lines_of(renumbered(skin, 4)), told, name)

    def test_labels_of_chance(self):
        for seed in range(30):
            skin = relabelled(renumbered(sheet(4, 4), seed), seed, [0] * (1 + seed) + [5])
            self.assertEqual(lines_of(skin), plain.lines(skin), seed)
            skin = relabelled(ring(5, 5), seed, [0] * (1 + seed) + [1])
            self.assertEqual(lines_of(skin), plain.lines(skin), seed)


if __name__ == "__main__":
    unittest.main()
