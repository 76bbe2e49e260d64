"""[1] and [2]: what is promised of the whole, over skins of several forms and all of the program together."""

import copy
import itertools
import random
import unittest
from fractions import Fraction

import plain
import plain_cutting
import plain_far
from forms import all_forms, bumpy, make_skin, relabelled, renumbered, ring, sheet
from histories import steps_by_chance
from things import check_own
from thinskin.carry import brought_all, carried_all, is_spot, least_spot, place_of
from thinskin.cutting import cut_pieces, joined_skin
from thinskin.desk import answers_to
from thinskin.drawing import bar_of, drawn_skin, put_back
from thinskin.errors import NoJoin, SkinError
from thinskin.far import both_bounds, bounds_of, nearest_of
from thinskin.front import Front
from thinskin.fronts import leans_of, mixed_skin, with_leans, without_these
from thinskin.marks import lines_of
from thinskin.prices import planes_of, price_at
from thinskin.shape import shape_of
from thinskin.skins import is_skin
from thinskin.texts import read_skin, read_steps, skin_text, steps_text
from thinskin.thinner import Thinner
from thinskin.views import part_in, view_for

FORMS = {name: skin for name, skin in all_forms().items() if len(skin[1]) > 1}


def same_form(skin):
    return (shape_of(skin), lines_of(skin))


class Whole(unittest.TestCase):
    def test_a_drawing_leaves_a_skin_of_the_same_form(self):
        for name, skin in FORMS.items():
            thinner, form = Thinner(skin, ()), same_form(skin)
            chance = random.Random(name)
            while thinner.prices_now():
                ahead = thinner.skin_now()
                b, a, star = thinner.draw_to(*chance.choice(thinner.prices_now())[1:])
                behind = thinner.skin_now()
                self.assertIs(is_skin(behind), True, name)
                self.assertEqual(same_form(behind), form, name)
                self.assertEqual(behind[0], skin[0])
                self.check_sides(ahead, behind, b, a)

    def check_sides(self, ahead, behind, b, a):
        """Each triangle that is left is on the side on which it was, and none is new."""
        left = []
        for trio in ahead[1]:
            if not {b, a} <= set(trio[:3]):
                moved = tuple(a if k == b else k for k in trio[:3]) + trio[3:]
                self.assertGreater(plain.dot(plain.normal(ahead[0], trio), plain.normal(ahead[0], moved)), 0)
                left.append(moved)
        self.assertEqual(make_skin(ahead[0], left), behind)

    def test_what_bars_is_seen_at_the_neighbours_alone(self):
        chance = random.Random(81)
        for name, skin in FORMS.items():
            for one, other in chance.sample(plain.ties(skin), min(12, len(plain.ties(skin)))):
                near = [trio for trio in skin[1] if {one, other} & set(trio[:3])]
                far = [trio[:3] + ((trio[3] + 1) % 10,) for trio in skin[1] if trio not in near]
                changed = (skin[0], tuple(sorted(near + far)))
                self.assertIs(is_skin(changed), True)
                for b, a in [(one, other), (other, one)]:
                    self.assertEqual(bar_of(changed, (), b, a), bar_of(skin, (), b, a), name)

    def test_taken_back_in_any_order_the_first_skin_is_there(self):
        for name, skin in FORMS.items():
            steps = read_steps(skin, (), steps_text(steps_by_chance(skin, name)))
            front, chance = Front(skin, steps), random.Random(name)
            for _ in range(3 * len(steps)):
                deed, numbers = chance.choice([(front.do_step, front.can_do()), (front.undo_step, front.can_undo())])
                if numbers:
                    deed(chance.choice(numbers))
            self.assertEqual(same_form(front.skin_now()), same_form(skin), name)
            while front.can_undo():
                front.undo_step(chance.choice(front.can_undo()))
            self.assertEqual(front.skin_now(), skin, name)

    def test_put_back_from_the_last_to_the_first(self):
        for name, skin in FORMS.items():
            thinner = Thinner(skin, ())
            thinner.thin_to(0)
            now = thinner.skin_now()
            for step in reversed(thinner.steps_done()):
                now = put_back(now, step)
                self.assertEqual(thinner.go_back(), step)
                self.assertEqual(thinner.skin_now(), now)
            self.assertEqual(now, skin, name)

    def test_bounds(self):
        for name in ["sheet", "bumpy sheet", "box", "double tip", "two forms", "tube"]:
            skin = FORMS[name]
            thinner = Thinner(skin, ())
            thinner.thin_to(len(skin[1]) // 2)
            thin = thinner.skin_now()
            for one, other in [(skin, thin), (thin, skin)]:
                self.check_bounds(one, other, random.Random(name))

    def check_bounds(self, one, other, chance):
        told = [bounds_of(one, other, halvings) for halvings in range(3)]
        lows, highs = [[Fraction(*bounds[k]) for bounds in told] for k in range(2)]
        self.assertEqual(lows, sorted(lows))
        self.assertEqual(highs, sorted(highs, reverse=True))
        self.assertLessEqual(lows[-1], highs[-1])
        points = [one[0][corner] for corner in plain.corners_of(one)]
        self.assertIn(lows[0], [plain_far.least_square(other, point) for point in points])
        for _ in range(25):
            cut = sorted(Fraction(chance.randint(0, 60), 60) for _ in range(2))
            shares = (cut[0], cut[1] - cut[0], 1 - cut[1])
            point = plain_far.mixed(plain_far.flake(one, chance.choice(one[1])), shares)
            self.assertLessEqual(plain_far.least_square(other, point), highs[-1])

    def test_the_told_order_goes_by_exact_prices(self):
        for name, skin in FORMS.items():
            planes = planes_of(skin)
            prices = Thinner(skin, ()).prices_now()
            self.assertEqual(prices, sorted(prices), name)
            for price, b, a in prices:
                self.assertEqual(price, price_at(planes[a], skin[0][a]) + price_at(planes[b], skin[0][a]))
            told = {(b, a) for price, b, a in prices}
            ties = [pair for one, other in plain.ties(skin) for pair in [(one, other), (other, one)]]
            self.assertEqual(told, {pair for pair in ties if bar_of(skin, (), *pair) is None})

    def test_any_closed_choice_makes_a_skin_of_the_same_form(self):
        for name, skin in FORMS.items():
            steps, chance = steps_by_chance(skin, name), random.Random(name)
            for _ in range(4):
                picked = sorted(chance.sample(range(len(steps)), min(len(steps), 3)))
                for choice in [with_leans(steps, picked), without_these(steps, picked)]:
                    told = mixed_skin(skin, steps, choice)
                    self.assertIs(is_skin(told), True, name)
                    self.assertEqual(same_form(told), same_form(skin), name)

    def test_what_meets_a_place_at_full_fineness_stands_there(self):
        for name, skin in FORMS.items():
            steps, chance = steps_by_chance(skin, name), random.Random(name)
            for _ in range(4):
                one, other = chance.choice(skin[0]), chance.choice(skin[0])
                box = tuple(tuple(pick(x, y) for x, y in zip(one, other)) for pick in (min, max))
                view = view_for(skin, steps, [(box, 0), (((0, 0, 0), (5, 5, 5)), len(steps))])
                self.assertLessEqual(set(part_in(skin, box)), set(view[1]), name)

    def test_cut_and_joined_it_is_the_skin(self):
        for name, skin in FORMS.items():
            thinner = Thinner(skin, ())
            thinner.thin_to(len(skin[1]) * 2 // 3)
            for there in [skin, thinner.skin_now(), relabelled(skin, name, [0, 1, 2])]:
                pieces = cut_pieces(there)
                random.Random(name).shuffle(pieces)
                self.assertEqual(joined_skin(there[0], pieces), there, name)

    def test_each_point_is_carried_and_each_one_there_comes_from_one(self):
        for name, skin in FORMS.items():
            steps, chance = steps_by_chance(skin, name), random.Random(name)
            choice = with_leans(steps, sorted(chance.sample(range(len(steps)), min(len(steps), 4))))
            behind = mixed_skin(skin, steps, choice)
            for shares in [(1, 0, 0), (1, 2, 0), (3, 4, 5), (1, 1, 1)]:
                spot = (chance.choice(skin[1]), shares)
                self.assertIs(is_spot(behind, carried_all(skin, steps, choice, spot)), True, name)
                there = (chance.choice(behind[1]), shares)
                source = brought_all(skin, steps, choice, there)
                self.assertEqual(carried_all(skin, steps, choice, source), least_spot(behind, there), name)

    def test_carried_points_and_bounds_go_together(self):
        # A point is no nearer to the skin behind than the nearest point, and that is within the bound.
        skin = sheet(4, 4, bumpy(5))
        thinner = Thinner(skin, ())
        thinner.thin_to(14)
        steps, behind = thinner.steps_done(), thinner.skin_now()
        high = Fraction(*both_bounds(skin, behind, 1)[1])
        for corner, trio in [(corner, trio) for trio in skin[1] for corner in trio[:3]]:
            shares = tuple(int(k == corner) for k in trio[:3])
            carried = carried_all(skin, steps, list(range(len(steps))), (trio, shares))
            place = [Fraction(*x) for x in place_of(behind, carried)]
            gap = plain.less(place, skin[0][corner])
            nearest = Fraction(*nearest_of(behind, skin[0][corner])[0])
            self.assertLessEqual(nearest, plain.dot(gap, gap))
            self.assertLessEqual(nearest, high)

    def test_by_way_of_texts(self):
        for name, skin in FORMS.items():
            there = read_skin(skin_text(skin))
            thinner = Thinner(there, ())
            thinner.thin_to(len(skin[1]) // 2)
            steps = read_steps(there, (), steps_text(thinner.steps_done()))
            self.assertEqual(steps, thinner.steps_done(), name)
            self.assertEqual(mixed_skin(skin, steps, list(range(len(steps)))), thinner.skin_now())
            rows = ["stay"] + [f"draw {b} {a}" for b, a, star in steps[:150]] + ["skin", "steps"]
            told = answers_to("\n".join([skin_text(skin)] + rows))
            self.assertEqual(told[-2].split("; "), [" ".join(map(str, trio)) for trio in thinner.skin_now()[1]])
            self.assertEqual(told[-1].split("; ") if steps else [], steps_text(steps).split("\n") if steps else [])

    def test_pieces_thinned_by_themselves(self):
        skin = renumbered(ring(8, 6, lambda k, j: k // 4), 9)
        joined, refused = 0, 0
        for seed, many in itertools.product(range(4), [2, 5, 1000]):
            pieces = []
            for piece, origins in cut_pieces(skin):
                stay = tuple(sorted({corner for tie in plain.rim_ties(piece) for corner in tie}))
                steps = steps_by_chance(piece, seed, stay, many)
                choice = without_these(steps, [len(steps) // 2])
                pieces.append((mixed_skin(piece, steps, choice), origins))
            try:
                told = joined_skin(skin[0], pieces)
            except NoJoin:
                refused += 1
                self.assertIs(plain_cutting.joined(skin[0], pieces), None)
            else:
                joined += 1
                self.assertLess(len(told[1]), len(skin[1]))
                self.assertEqual(same_form(told), same_form(skin))
        self.assertGreater(joined, 0)
        self.assertGreater(refused, 0)

    def test_twins_by_other_orders(self):
        skin = FORMS["labelled ring"]
        steps = steps_by_chance(skin, 11)
        one, other = Front(skin, steps), Front(skin, steps)
        while one.can_do():
            one.do_step(one.can_do()[0])
        while other.can_do():
            other.do_step(other.can_do()[-1])
        self.assertEqual(one.skin_now(), other.skin_now())
        thinner = Thinner(skin, ())
        for b, a, star in steps:
            self.assertEqual(thinner.draw_to(b, a), (b, a, star))
        self.assertEqual(thinner.skin_now(), one.skin_now())


class Told(unittest.TestCase):
    def test_what_was_told_may_be_handed_in_again_whatever_its_size(self):
        # A square that is cut along all ties has more corners in its pieces than a skin has.
        skin = make_skin(ring(12, 10)[0], [trio[:3] + (k % 10,) for k, trio in enumerate(ring(12, 10)[1])])
        pieces = cut_pieces(skin)
        self.assertGreater(sum(len(origins) for piece, origins in pieces), 500)
        self.assertEqual(joined_skin(skin[0], pieces), skin)
        shares = (10 ** 60 + 1, 10 ** 59, 3)
        spot = (skin[1][0], shares)
        self.assertEqual(least_spot(skin, spot), spot)
        steps = steps_by_chance(ring(12, 10), 1)
        self.assertGreater(len(steps), 80)
        self.assertEqual(len(leans_of(steps)), len(steps))

    def test_refusals_change_nothing(self):
        skin = FORMS["halves"]
        steps = steps_by_chance(skin, 4)
        choice = [k for k in range(1, len(steps))]
        kept = copy.deepcopy((skin, steps, choice))
        asks = [lambda: mixed_skin(skin, steps, choice), lambda: drawn_skin(skin, (), 0, 1),
                lambda: put_back(skin, steps[0]), lambda: joined_skin(skin[0], []), lambda: read_skin(""),
                lambda: read_steps(skin, (), "0"), lambda: answers_to(""),
                lambda: carried_all(skin, steps, choice, (skin[1][0], (1, 0, 0))),
                lambda: brought_all(skin, steps, choice, (skin[1][0], (1, 0, 0)))]
        for ask in asks:
            for _ in range(2):
                with self.assertRaises(SkinError):
                    ask()
                self.assertEqual((skin, steps, choice), kept)

    def test_no_two_lists_that_are_told_are_one_and_the_same(self):
        skin = FORMS["halves"]
        steps = steps_by_chance(skin, 4)
        for ask in [lambda: leans_of(steps), lambda: cut_pieces(skin), lambda: planes_of(skin)]:
            check_own(self, ask)
        front, thinner = Front(skin, steps), Thinner(skin, ())
        for asks in [(front.steps_in, front.can_do, front.can_undo), (thinner.steps_done, thinner.steps_undone)]:
            told = [ask() for ask in asks for _ in range(2)]
            for one, other in itertools.combinations(told, 2):
                self.assertIsNot(one, other)


if __name__ == "__main__":
    unittest.main()
