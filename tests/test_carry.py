"""[21]: spots, and points carried along with steps and brought back."""

import copy
import random
import unittest
from fractions import Fraction

import plain
import plain_carry
from forms import all_forms, make_skin, ring, sheet, spread, tip, triangle, wheel
from histories import all_histories, small_histories
from things import check_own, odd_things, with_lists, with_others, with_truths
from thinskin.carry import (brought_all, brought_back, carried_all, carried_on, is_spot, least_spot, place_of,
                            weights_of)
from thinskin.drawing import drawn_skin
from thinskin.errors import NotClosed
from thinskin.fronts import is_closed, mixed_skin, with_leans, without_these

BIG = 10 ** 29 + 7
SHARES = [(1, 0, 0), (0, 1, 0), (0, 0, 1), (1, 1, 0), (0, 2, 3), (5, 0, 1), (1, 1, 1), (1, 2, 3), (6, 10, 15),
          (BIG, BIG + 1, 3), (0, BIG, 1), (BIG * BIG, 0, BIG * BIG + 1), (2, 2, 1), (4, 1, 5)]
HISTORIES = all_histories()


def spots_by_chance(skin, seed, many):
    chance = random.Random(seed)
    return [(chance.choice(skin[1]), chance.choice(SHARES)) for _ in range(many)]


def let_steps(skin, seed, many):
    """Some drawings that are let, with the skins behind them."""
    chance = random.Random(seed)
    pairs = [(b, a) for one, other in plain.ties(skin) for b, a in [(one, other), (other, one)]]
    pairs = [pair for pair in pairs if plain.bar(skin, (), *pair) is None]
    return [drawn_skin(skin, (), *pair) for pair in chance.sample(pairs, min(many, len(pairs)))]


class Spots(unittest.TestCase):
    def test_weights_by_hand(self):
        self.assertEqual(weights_of(((2, 7, 5, 0), (1, 2, 3))), {2: 1, 7: 2, 5: 3})
        self.assertEqual(weights_of(((2, 7, 5, 0), (0, 2, 3))), {7: 2, 5: 3})
        self.assertEqual(weights_of(((2, 7, 5, 0), (0, 0, 1))), {5: 1})
        self.assertEqual(weights_of(((0, 1, 2, 9), (1, 0, 0))), {0: 1})
        self.assertEqual(weights_of(((0, 1, 2, 9), (BIG, 0, 1))), {0: BIG, 2: 1})
        self.assertIs(type(weights_of(((0, 1, 2, 9), (1, 0, 0)))), dict)

    def test_least_spot_by_hand(self):
        skin = sheet(2, 2)
        self.assertEqual(least_spot(skin, ((4, 8, 7, 0), (1, 0, 0))), ((0, 1, 4, 0), (0, 0, 1)))
        self.assertEqual(least_spot(skin, ((4, 8, 7, 0), (1, 2, 0))), ((4, 5, 8, 0), (1, 0, 2)))
        self.assertEqual(least_spot(skin, ((4, 8, 7, 0), (1, 2, 3))), ((4, 8, 7, 0), (1, 2, 3)))
        self.assertEqual(least_spot(skin, ((4, 8, 7, 0), (0, 2, 3))), ((4, 8, 7, 0), (0, 2, 3)))
        self.assertEqual(least_spot(skin, ((0, 4, 3, 0), (7, 1, 0))), ((0, 1, 4, 0), (7, 0, 1)))

    def test_all_forms(self):
        for name, skin in all_forms().items():
            for spot in spots_by_chance(skin, name, 40):
                self.assertEqual(weights_of(spot), plain_carry.weights(spot))
                told = least_spot(skin, spot)
                self.assertEqual(told, plain_carry.least(skin, spot), name)
                self.assertIs(is_spot(skin, told), True)
                self.assertEqual(weights_of(told), weights_of(spot))
                self.assertEqual(least_spot(skin, told), told)
                self.assertEqual(place_of(skin, told), place_of(skin, spot))
                self.assertEqual(place_of(skin, spot), plain_carry.place_pairs(skin, spot))

    def test_place_by_hand(self):
        skin = triangle()
        self.assertEqual(place_of(skin, ((0, 1, 2, 0), (1, 0, 0))), ((0, 1), (0, 1), (0, 1)))
        self.assertEqual(place_of(skin, ((0, 1, 2, 0), (0, 1, 1))), ((2, 1), (2, 1), (0, 1)))
        self.assertEqual(place_of(skin, ((0, 1, 2, 0), (1, 1, 1))), ((4, 3), (4, 3), (0, 1)))
        self.assertEqual(place_of(skin, ((0, 1, 2, 0), (1, 2, 3))), ((4, 3), (2, 1), (0, 1)))

    def test_places_of_great_shares(self):
        skin = make_skin([(-1000, 3, 7), (999, -1000, 1), (5, 5, 1000)], [(0, 1, 2, 0)])
        for shares in SHARES:
            spot = (skin[1][0], shares)
            self.assertEqual(place_of(skin, spot), plain_carry.place_pairs(skin, spot))


class IsSpot(unittest.TestCase):
    def check(self, skin, thing):
        told = is_spot(skin, thing)
        self.assertIs(type(told), bool)
        self.assertIs(told, plain_carry.is_spot(skin, thing), repr(thing)[:80])
        return told

    def test_spots(self):
        for name, skin in all_forms().items():
            for spot in spots_by_chance(skin, name, 10):
                self.assertIs(self.check(skin, spot), True)
        self.assertIs(is_spot(triangle(), ((0, 1, 2, 0), (10 ** 30, 10 ** 30 + 1, 10 ** 31))), True)

    def test_shares(self):
        for shares in [(0, 0, 0), (2, 0, 0), (0, 2, 2), (2, 4, 6), (3, 0, 9), (-1, 1, 1), (1, 1, -1), (0, -1, 0),
                       (-1, -1, -1), (10 ** 30, 0, 10 ** 30), (2 * BIG, 4, 6), (1, 1), (1,), (), (1, 1, 1, 1), [1, 0, 0],
                       (1, 0, None), (1, 0, "0"), "100", None, 1, (True, 0, 0), (1, False, 0), (1, 1, True)]:
            self.assertIs(self.check(triangle(), ((0, 1, 2, 0), shares)), False)
        for shares in [(1, 0, 0), (2, 3, 0), (2, 0, 3), (0, 2, 3), (6, 10, 15), (1, 1, 1), (2, 4, 5)]:
            self.assertIs(self.check(triangle(), ((0, 1, 2, 0), shares)), True)

    def test_triangles(self):
        skin = sheet(2, 2)
        for trio in [(0, 1, 4, 1), (1, 4, 0, 0), (4, 0, 1, 0), (0, 4, 1, 0), (0, 1, 3, 0), (0, 1, 4), (0, 1, 4, 0, 0),
                     [0, 1, 4, 0], (False, 1, 4, 0), (0, True, 4, 0), (0, 1, 4, False), (0, 1, 9, 0), (-1, 1, 4, 0), None,
                     0, "0140", ()]:
            self.assertIs(self.check(skin, (trio, (1, 1, 1))), False)
        self.assertIs(self.check(skin, ((0, 1, 4, 0), (1, 1, 1))), True)
        self.assertIs(self.check(sheet(1, 1), ((0, 1, 4, 0), (1, 1, 1))), False)

    def test_any_part_otherwise(self):
        for skin, spot in [(triangle(), ((0, 1, 2, 0), (1, 0, 2))), (sheet(1, 1), ((0, 3, 2, 0), (1, 1, 1)))]:
            for thing in with_others(spot):
                before = copy.deepcopy(thing)
                self.check(skin, thing)
                self.assertEqual(repr(thing), repr(before))
            for thing in list(with_truths(spot)) + list(with_lists(spot)):
                self.assertIs(self.check(skin, thing), False)

    def test_odd_things(self):
        skin = triangle()
        trio, shares = spot = ((0, 1, 2, 0), (1, 2, 3))
        for odd in odd_things():
            for thing in [odd, (odd, shares), (trio, odd), (odd, odd), spot + (odd,), (trio, (odd, 1, 1)), (odd,),
                          [trio, shares], (shares, trio), (trio,)]:
                self.check(skin, thing)


class Carried(unittest.TestCase):
    def test_by_hand(self):
        skin = sheet(2, 1)
        behind, step = drawn_skin(skin, (), 1, 0)
        self.assertEqual(behind[1], ((0, 2, 5, 0), (0, 4, 3, 0), (0, 5, 4, 0)))
        # Of a triangle that is gone onto a tie; the shares lose their common divisor.
        self.assertEqual(carried_on(skin, step, ((0, 1, 4, 0), (1, 2, 3))), ((0, 4, 3, 0), (1, 1, 0)))
        self.assertEqual(carried_on(skin, step, ((0, 1, 4, 0), (1, 2, 4))), ((0, 4, 3, 0), (3, 4, 0)))
        self.assertEqual(carried_on(skin, step, ((0, 1, 4, 0), (1, 2, 0))), ((0, 2, 5, 0), (1, 0, 0)))
        self.assertEqual(carried_on(skin, step, ((0, 1, 4, 0), (0, 1, 0))), ((0, 2, 5, 0), (1, 0, 0)))
        # Of triangles that are turned.
        self.assertEqual(carried_on(skin, step, ((1, 2, 5, 0), (3, 1, 2))), ((0, 2, 5, 0), (3, 1, 2)))
        self.assertEqual(carried_on(skin, step, ((1, 5, 4, 0), (3, 1, 2))), ((0, 5, 4, 0), (3, 1, 2)))
        self.assertEqual(carried_on(skin, step, ((1, 5, 4, 0), (3, 1, 0))), ((0, 2, 5, 0), (3, 0, 1)))
        # Of one that has not b.
        self.assertEqual(carried_on(skin, step, ((0, 4, 3, 0), (3, 1, 2))), ((0, 4, 3, 0), (3, 1, 2)))

    def test_told_over_again(self):
        for name, skin in all_forms().items():
            for behind, step in let_steps(skin, name, 6):
                b, a, star = step
                spots = [(trio, shares) for trio in star for shares in SHARES] + spots_by_chance(skin, name, 8)
                for spot in spots:
                    told = carried_on(skin, step, spot)
                    self.assertEqual(told, plain_carry.carried(skin, step, spot), name)
                    self.check_way(skin, behind, step, spot, told)

    def check_way(self, skin, behind, step, spot, told):
        """It moves by so much of the way from b to a as b's part of all shares is."""
        b, a, star = step
        self.assertIs(is_spot(behind, told), True)
        part = Fraction(weights_of(spot).get(b, 0), sum(spot[1]))
        start, end = plain_carry.place(skin, spot), plain_carry.place(behind, told)
        way = plain.less(skin[0][a], skin[0][b])
        self.assertEqual(end, tuple(x + part * w for x, w in zip(start, way)))

    def test_spots_of_one_weights_are_carried_alike(self):
        skin = sheet(3, 3)
        for behind, step in let_steps(skin, 1, 8):
            for spot in spots_by_chance(skin, 2, 20):
                self.assertEqual(carried_on(skin, step, spot), carried_on(skin, step, least_spot(skin, spot)))

    def test_the_turned_triangle_puts_its_least_corner_first(self):
        skin = wheel([(10, 0, 0), (10, 10, 0), (0, 10, 0), (-10, 0, 0), (0, -10, 0)], [4] * 5)
        behind, step = drawn_skin(skin, (), 0, 3)
        self.assertIn((1, 3, 5, 4), behind[1])
        self.assertEqual(carried_on(skin, step, ((0, 5, 1, 4), (2, 3, 4))), ((1, 3, 5, 4), (4, 2, 3)))
        self.assertEqual(brought_back(behind, step, ((1, 3, 5, 4), (4, 2, 3))), ((0, 5, 1, 4), (2, 3, 4)))


class Brought(unittest.TestCase):
    def test_by_hand(self):
        skin = sheet(2, 1)
        behind, step = drawn_skin(skin, (), 1, 0)
        self.assertEqual(brought_back(behind, step, ((0, 5, 4, 0), (3, 1, 2))), ((1, 5, 4, 0), (3, 1, 2)))
        self.assertEqual(brought_back(behind, step, ((0, 4, 3, 0), (3, 1, 2))), ((0, 4, 3, 0), (3, 1, 2)))
        # The least triangle of a, (0, 2, 5), was turned: a's own point is brought to b.
        self.assertEqual(brought_back(behind, step, ((0, 4, 3, 0), (1, 0, 0))), ((0, 1, 4, 0), (0, 1, 0)))
        # The least triangle of that tie, (0, 4, 3), was not.
        self.assertEqual(brought_back(behind, step, ((0, 5, 4, 0), (3, 0, 2))), ((0, 1, 4, 0), (3, 0, 2)))
        # One of a turned triangle, without a.
        self.assertEqual(brought_back(behind, step, ((0, 2, 5, 0), (0, 1, 1))), ((1, 2, 5, 0), (0, 1, 1)))

    def test_told_over_again(self):
        turned, others = 0, 0
        for name, skin in all_forms().items():
            for behind, step in let_steps(skin, name, 6):
                spots = spots_by_chance(behind, name, 25)
                spots += [(trio, shares) for trio in plain.star(behind, step[1]) for shares in SHARES[:8]]
                for spot in spots:
                    told = brought_back(behind, step, spot)
                    self.assertEqual(told, plain_carry.brought(skin, behind, step, spot), name)
                    self.assertIs(is_spot(skin, told), True)
                    self.assertEqual(least_spot(skin, told), told)
                    self.assertEqual(carried_on(skin, step, told), least_spot(behind, spot), name)
                    turned += step[0] in weights_of(told)
                    others += step[0] not in weights_of(told)
        self.assertGreater(turned, 100)
        self.assertGreater(others, 100)

    def test_corners_in_no_triangle(self):
        skin = spread(sheet(2, 2))
        behind, step = drawn_skin(skin, (), 9, 1)
        for spot in spots_by_chance(behind, 3, 30):
            self.assertEqual(carried_on(skin, step, brought_back(behind, step, spot)), least_spot(behind, spot))


class All(unittest.TestCase):
    def check_not_closed(self, ask):
        with self.assertRaises(NotClosed) as caught:
            ask()
        self.assertIs(type(caught.exception), NotClosed)

    def test_the_empty_choice(self):
        for name, (first, steps) in HISTORIES.items():
            for spot in spots_by_chance(first, name, 4):
                self.assertEqual(carried_all(first, steps, [], spot), least_spot(first, spot))
                self.assertEqual(brought_all(first, steps, [], spot), least_spot(first, spot))
        spot = ((4, 8, 7, 0), (1, 0, 0))
        self.assertEqual(carried_all(sheet(2, 2), [], [], spot), ((0, 1, 4, 0), (0, 0, 1)))
        self.assertEqual(brought_all(sheet(2, 2), [], [], spot), ((0, 1, 4, 0), (0, 0, 1)))

    def choices(self, steps, name):
        chance = random.Random(name)
        yield list(range(len(steps)))
        picked = [k for k in range(len(steps)) if chance.random() < 0.1]
        yield with_leans(steps, picked)
        yield without_these(steps, picked[:2])

    def test_closed_choices(self):
        for name, (first, steps) in HISTORIES.items():
            for choice in self.choices(steps, name):
                skin = mixed_skin(first, steps, choice)
                for spot in spots_by_chance(first, name, 4):
                    told = carried_all(first, steps, choice, spot)
                    self.assertEqual(told, plain_carry.carried_all(first, steps, choice, spot), name)
                    self.assertIs(is_spot(skin, told), True)
                    self.assertEqual(least_spot(skin, told), told)
                for spot in spots_by_chance(skin, name, 4):
                    told = brought_all(first, steps, choice, spot)
                    self.assertEqual(told, plain_carry.brought_all(first, steps, choice, spot), name)
                    self.assertIs(is_spot(first, told), True)
                    self.assertEqual(carried_all(first, steps, choice, told), least_spot(skin, spot), name)

    def test_by_one_step_after_another(self):
        first, steps = HISTORIES["ring by chance"]
        for spot in spots_by_chance(first, 5, 10):
            skin, carried = first, least_spot(first, spot)
            for k, step in enumerate(steps):
                carried = carried_on(skin, step, carried)
                skin = plain.drawn(skin, *step[:2])
                self.assertEqual(carried_all(first, steps, list(range(k + 1)), spot), carried)

    def test_not_closed(self):
        found = 0
        for name, (first, steps) in small_histories().items():
            for choice in [[k] for k in range(len(steps))] + [[0, len(steps) - 1], list(range(1, len(steps)))]:
                if steps and choice == sorted(set(choice)) and not is_closed(steps, choice):
                    found += 1
                    spot = (first[1][0], (1, 1, 1))
                    self.check_not_closed(lambda: carried_all(first, steps, choice, spot))
                    self.check_not_closed(lambda: brought_all(first, steps, choice, spot))
        self.assertGreater(found, 20)

    def test_flat_forms_stay_in_their_plane(self):
        first, steps = HISTORIES["four labels"]
        choice = list(range(len(steps)))
        for spot in spots_by_chance(first, 6, 20):
            self.assertEqual(place_of(first, carried_all(first, steps, choice, spot))[2], (0, 1))


class Own(unittest.TestCase):
    def test_what_is_told_is_the_askers_own(self):
        first, steps = HISTORIES["tube"]
        choice = list(range(len(steps)))
        spot, last = (first[1][3], (1, 2, 3)), mixed_skin(first, steps, choice)
        there = (last[1][0], (1, 2, 3))
        kept = copy.deepcopy((steps, choice))
        behind = mixed_skin(first, steps, [0])
        for ask in [lambda: weights_of(spot), lambda: least_spot(first, spot), lambda: place_of(first, spot),
                    lambda: carried_on(first, steps[0], spot), lambda: carried_all(first, steps, choice, spot),
                    lambda: brought_all(first, steps, choice, there), lambda: is_spot(first, spot),
                    lambda: brought_back(behind, steps[0], (behind[1][0], (1, 0, 0)))]:
            check_own(self, ask)
            self.assertEqual((steps, choice), kept)

    def test_kinds_of_answers(self):
        skin = ring(5, 4)
        told = least_spot(skin, (skin[1][7], (0, 1, 0)))
        self.assertEqual([type(told), type(told[0]), type(told[1])], [tuple] * 3)
        self.assertEqual({type(share) for share in told[1]}, {int})
        self.assertIs(type(place_of(tip(), (tip()[1][0], (1, 2, 3)))), tuple)


if __name__ == "__main__":
    unittest.main()
