"""[17]: boxes, wishes, and views with a fineness for each place."""

import copy
import random
import unittest

import plain
import plain_steps
from forms import all_forms, sheet, spread, triangle
from histories import all_histories, thinned_steps
from things import check_own
from thinskin.fronts import mixed_skin, without_these
from thinskin.thinner import Thinner
from thinskin.views import barred_by, choice_for, part_in, view_for

HISTORIES = all_histories()
EVERYWHERE = ((-1000, -1000, -1000), (1000, 1000, 1000))
NOWHERE = ((-1000, -1000, 999), (-999, -999, 1000))


def box_by_chance(chance, corners):
    """A box whose bounds are often those of places."""
    low, high = [], []
    for axis in range(3):
        found = [place[axis] for place in corners]
        one, other = [min(max(chance.choice(found) + chance.choice((-1, 0, 0, 1)), -1000), 1000) for _ in range(2)]
        low.append(min(one, other))
        high.append(max(one, other))
    return tuple(low), tuple(high)


class Parts(unittest.TestCase):
    def test_everywhere_and_nowhere(self):
        for name, skin in all_forms().items():
            self.assertEqual(part_in(skin, EVERYWHERE), list(skin[1]), name)
            self.assertEqual(part_in(skin, NOWHERE), [], name)
        self.assertIs(type(part_in(triangle(), EVERYWHERE)), list)

    def test_at_a_bound_only_and_just_beside(self):
        # The triangle reaches from 0 to 4 along x and y, and stands at 0 along z.
        skin = triangle()
        meeting = [((4, 0, 0), (9, 9, 9)), ((-9, -9, -9), (0, 0, 0)), ((0, 4, 0), (0, 4, 0)), ((-5, 4, -1), (9, 9, 1)),
                   ((-9, -9, -9), (9, 9, 0)), ((-9, -9, 0), (9, 9, 9)), ((4, 4, 0), (4, 4, 0)), ((3, 3, 0), (3, 3, 0)),
                   ((0, 0, 0), (0, 0, 0)), ((1, 1, 0), (2, 2, 0))]
        for box in meeting:
            self.assertEqual(part_in(skin, box), [(0, 1, 2, 0)], box)
        beside = [((5, 0, 0), (9, 9, 9)), ((-9, -9, -9), (-1, 9, 9)), ((0, 5, 0), (4, 9, 0)), ((0, -9, 0), (4, -1, 0)),
                  ((0, 0, 1), (4, 4, 9)), ((0, 0, -9), (4, 4, -1)), ((-9, -9, -9), (9, 9, -1)), ((5, 5, 0), (5, 5, 0))]
        for box in beside:
            self.assertEqual(part_in(skin, box), [], box)

    def test_within_a_triangle(self):
        # A box within the bounds meets it, though no corner lies in the box.
        skin = (((0, 0, 0), (900, 0, 0), (0, 900, 0)), ((0, 1, 2, 0),))
        self.assertEqual(part_in(skin, ((10, 10, -1), (20, 20, 1))), [(0, 1, 2, 0)])
        self.assertEqual(part_in(skin, ((800, 800, 0), (810, 810, 0))), [(0, 1, 2, 0)])

    def test_sheet(self):
        skin = sheet(3, 3)
        self.assertEqual(part_in(skin, ((11, 11, 0), (19, 19, 0))), [(5, 6, 10, 0), (5, 10, 9, 0)])
        self.assertEqual(len(part_in(skin, ((10, 10, 0), (20, 20, 0)))), 18)
        self.assertEqual(len(part_in(skin, ((0, 0, 0), (9, 9, 0)))), 2)
        self.assertEqual(len(part_in(skin, ((0, 0, 0), (10, 9, 0)))), 4)

    def test_told_over_again(self):
        chance = random.Random(51)
        for name, skin in all_forms().items():
            for _ in range(25):
                box = box_by_chance(chance, skin[0])
                told = part_in(skin, box)
                self.assertEqual(told, plain_steps.part(skin, box), (name, box))
                self.assertEqual(told, sorted(set(told)))


class Wishes(unittest.TestCase):
    def test_many(self):
        for name, (first, steps) in HISTORIES.items():
            every = list(range(len(steps)))
            self.assertEqual(barred_by(first, steps, (EVERYWHERE, 0)), every, name)
            self.assertEqual(barred_by(first, steps, (NOWHERE, 0)), [], name)
            for many in [1, len(steps) // 2, len(steps)]:
                self.assertEqual(barred_by(first, steps, (EVERYWHERE, many)), every[many:], name)
            for many in [len(steps) + 1, len(steps) + 100, 10 ** 9]:
                self.assertEqual(barred_by(first, steps, (EVERYWHERE, many)), [], name)

    def test_told_over_again(self):
        chance = random.Random(52)
        for name, (first, steps) in HISTORIES.items():
            for _ in range(6):
                wish = (box_by_chance(chance, first[0]), chance.randint(0, len(steps) + 1))
                told = barred_by(first, steps, wish)
                self.assertIs(type(told), list)
                self.assertEqual(told, plain_steps.barred(first, steps, wish), name)

    def test_a_star_that_meets_at_a_bound_only(self):
        first = sheet(2, 2)
        thinner = Thinner(first, ())
        steps = [thinner.draw_to(4, 0)]
        self.assertEqual(barred_by(first, steps, (((20, 20, 0), (30, 30, 0)), 0)), [0])
        self.assertEqual(barred_by(first, steps, (((21, 20, 0), (30, 30, 0)), 0)), [])
        # No triangle of its star reaches there, though some triangle of the skin does.
        self.assertEqual(barred_by(first, steps, (((11, 0, 0), (20, 9, 0)), 0)), [0])
        self.assertEqual(barred_by(first, steps, (((0, 0, 1), (20, 20, 9)), 0)), [])


class Choices(unittest.TestCase):
    def check(self, first, steps, wishes, name):
        barred = sorted({k for wish in wishes for k in plain_steps.barred(first, steps, wish)})
        choice = choice_for(first, steps, wishes)
        self.assertIs(type(choice), list)
        self.assertEqual(choice, plain_steps.without(steps, barred), name)
        self.assertEqual(choice, without_these(steps, barred), name)
        view = view_for(first, steps, wishes)
        self.assertEqual(view, mixed_skin(first, steps, choice), name)
        return view

    def test_no_wish(self):
        for name, (first, steps) in HISTORIES.items():
            self.assertEqual(choice_for(first, steps, []), list(range(len(steps))))
            self.assertEqual(view_for(first, steps, []), mixed_skin(first, steps, list(range(len(steps)))))

    def test_all_at_full_fineness(self):
        for name, (first, steps) in HISTORIES.items():
            self.assertEqual(choice_for(first, steps, [(EVERYWHERE, 0)]), [])
            self.assertEqual(view_for(first, steps, [(EVERYWHERE, 0)]), first)
            for many in [1, len(steps) // 3, len(steps), len(steps) + 7]:
                behind = list(range(min(many, len(steps))))
                self.assertEqual(choice_for(first, steps, [(EVERYWHERE, many)]), behind)
                self.assertEqual(view_for(first, steps, [(EVERYWHERE, many)]), mixed_skin(first, steps, behind))

    def test_one_wish(self):
        chance = random.Random(53)
        seen = 0
        for name, (first, steps) in HISTORIES.items():
            for _ in range(5):
                many = chance.choice([0, 0, 1, len(steps) // 2, chance.randint(0, len(steps) + 2)])
                box = box_by_chance(chance, first[0])
                view = self.check(first, steps, [(box, many)], name)
                fine = mixed_skin(first, steps, list(range(min(many, len(steps)))))
                asked = part_in(fine, box)
                self.assertLessEqual(set(asked), set(view[1]), name)
                seen += 0 < len(view[1]) < len(first[1]) and bool(asked)
        self.assertGreater(seen, 30)

    def test_several_wishes(self):
        chance = random.Random(54)
        for name, (first, steps) in HISTORIES.items():
            shape, lines = plain.shape(first), plain.lines(first)
            for count in [2, 3, 20]:
                wishes = [(box_by_chance(chance, first[0]), chance.randint(0, len(steps))) for _ in range(count)]
                view = self.check(first, steps, wishes, name)
                for (low, high), many in wishes:
                    if many == 0:
                        self.assertLessEqual(set(part_in(first, (low, high))), set(view[1]))
            self.assertIs(plain.is_skin(view), True)
            self.assertEqual(plain.shape(view), shape, name)
            self.assertEqual(plain.lines(view), lines, name)

    def test_the_same_wish_twice(self):
        first, steps = HISTORIES["bumpy sheet"]
        wish = (((0, 0, -9), (15, 15, 9)), 2)
        self.assertEqual(choice_for(first, steps, [wish, wish]), choice_for(first, steps, [wish]))

    def test_one_corner_of_a_sheet(self):
        first = sheet(5, 5)
        steps = thinned_steps(first)
        view = view_for(first, steps, [(((41, 41, 0), (49, 49, 0)), 0)])
        self.assertLessEqual({(28, 29, 35, 0), (28, 35, 34, 0)}, set(view[1]))
        self.assertEqual(len(view[1]), 6)
        self.assertEqual(view_for(first, steps, [(((1, 1, 0), (9, 9, 0)), 0)]), first)

    def test_corners_in_no_triangle(self):
        first = spread(sheet(3, 3))
        steps = thinned_steps(first)
        self.check(first, steps, [(((7, 7, 7), (8, 8, 8)), 0)], "spread")
        self.assertEqual(barred_by(first, steps, (((7, 7, 7), (8, 8, 8)), 0)), [])


class Own(unittest.TestCase):
    def test_nothing_handed_in_is_changed(self):
        first, steps = HISTORIES["hole"]
        wishes = [(((0, 0, 0), (15, 15, 0)), 0), (((40, 0, 0), (45, 5, 0)), 3)]
        kept = copy.deepcopy((steps, wishes))
        for ask in [lambda: barred_by(first, steps, wishes[0]), lambda: choice_for(first, steps, wishes),
                    lambda: view_for(first, steps, wishes), lambda: part_in(first, wishes[0][0])]:
            check_own(self, ask)
            self.assertEqual((steps, wishes), kept)


if __name__ == "__main__":
    unittest.main()
