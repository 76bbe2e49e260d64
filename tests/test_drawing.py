"""[8] and [9]: drawing corners together, and putting them back."""

import itertools
import random
import unittest

import plain
from forms import (all_forms, beside, box, bumpy, double_tip, make_skin, renumbered, ring, sheet, spread, tip, triangle,
                   tube, wheel)
from things import odd_things, with_truths
from thinskin.drawing import bar_of, drawn_skin, put_back, shows_step
from thinskin.errors import Barred, NoStep
from thinskin.marks import lines_of
from thinskin.shape import shape_of
from thinskin.skins import is_skin

ROUND = [(10, 0, 0), (10, 10, 0), (0, 10, 0), (-10, 0, 0), (0, -10, 0)]
FORMS = dict(all_forms(), **{
    "thin tube": tube(3, 3),
    "thin ring": ring(5, 3),
    "thinnest ring": renumbered(ring(3, 3), 1),
    "wheel": wheel(ROUND, [3] * 5),
    "labelled tip": make_skin(tip()[0], [trio[:3] + (k,) for k, trio in enumerate(tip()[1])]),
    "steep sheet": sheet(4, 4, lambda x, y: 90 * (x * y % 3)),
})


def pairs_of(skin):
    return list(itertools.permutations(range(len(skin[0])), 2))


def tied_pairs(skin):
    return [pair for one, other in plain.ties(skin) for pair in [(one, other), (other, one)]]


def let_drawings(skin):
    return [(b, a) for b, a in tied_pairs(skin) if plain.bar(skin, (), b, a) is None]


class Bars(unittest.TestCase):
    def test_let(self):
        for b, a in [(4, 0), (4, 1), (4, 3), (4, 5), (4, 7), (4, 8), (1, 0), (1, 2), (3, 6), (7, 8)]:
            self.assertIs(bar_of(sheet(2, 2), (), b, a), None, (b, a))
        for a in range(1, 6):
            self.assertIs(bar_of(wheel(ROUND, [3] * 5), (), 0, a), None)

    def test_apart(self):
        skin = sheet(2, 2)
        for b, a in [(0, 5), (4, 2), (4, 6), (0, 8), (1, 3)]:
            self.assertEqual(bar_of(skin, (), b, a), "apart")
            self.assertEqual(bar_of(skin, (), a, b), "apart")
        two = beside(triangle(), triangle())
        self.assertEqual(bar_of(two, (), 0, 3), "apart")

    def test_corners_that_the_skin_has_not(self):
        skin = spread(sheet(2, 2))
        had = plain.corners_of(skin)
        for b, a in pairs_of(skin):
            if b not in had or a not in had:
                self.assertEqual(bar_of(skin, (), b, a), "apart")
                self.assertEqual(bar_of(skin, (b, a), b, a), "apart")

    def test_stays(self):
        skin = sheet(2, 2)
        for a in [0, 1, 3, 5, 7, 8]:
            self.assertEqual(bar_of(skin, (4,), 4, a), "stays")
            self.assertEqual(bar_of(skin, (0, 2, 4, 7), 4, a), "stays")
        self.assertIs(bar_of(skin, (0, 1, 2, 3, 5), 4, 0), None)
        self.assertIs(bar_of(skin, (0,), 1, 0), None)
        self.assertEqual(bar_of(skin, (1,), 1, 0), "stays")

    def test_mark(self):
        skin = sheet(2, 2)
        for b, a in [(0, 1), (0, 3), (0, 4), (2, 1), (8, 4)]:
            self.assertEqual(bar_of(skin, (), b, a), "mark", (b, a))
        for b, a in [(1, 4), (1, 5), (3, 4), (5, 4), (7, 3), (7, 4)]:
            self.assertEqual(bar_of(skin, (), b, a), "mark", (b, a))
        halves = sheet(4, 4, label=lambda x, y: int(x >= 2))
        self.assertIs(bar_of(halves, (), 12, 7), None)
        self.assertIs(bar_of(halves, (), 12, 17), None)
        for a in [6, 11, 13, 18]:
            self.assertEqual(bar_of(halves, (), 12, a), "mark")
        self.assertIs(bar_of(halves, (), 11, 12), None)

    def test_shape_by_a_neighbour_without_a_triangle(self):
        skin = tube(3, 3)
        self.assertEqual(bar_of(skin, (), 3, 4), "shape")
        self.assertEqual(plain.bars(skin, (), 3, 4)[0], "shape")
        self.assertNotIn("shape", plain.bars(tube(4, 3), (), 4, 5))

    def test_shape_by_the_same_two_corners(self):
        for b, a in pairs_of(tip()):
            self.assertEqual(bar_of(tip(), (), b, a), "shape")

    def test_turn(self):
        hollow = wheel([(10, 0, 0), (2, 2, 0), (0, 10, 0), (-10, -10, 0)], [0] * 4)
        self.assertEqual(bar_of(hollow, (), 0, 1), "turn")
        self.assertEqual(plain.bars(hollow, (), 0, 1), ["turn"])
        self.assertIs(bar_of(hollow, (), 0, 2), None)

    def test_turn_where_the_dot_is_nought(self):
        straight = wheel([(10, 0, 0), (5, 5, 0), (0, 10, 0), (-10, -10, 0)], [0] * 4)
        self.assertEqual(bar_of(straight, (), 0, 1), "turn")
        nearly = wheel([(10, 0, 0), (6, 5, 0), (0, 10, 0), (-10, -10, 0)], [0] * 4)
        self.assertIs(bar_of(nearly, (), 0, 1), None)

    def test_turn_where_a_triangle_comes_to_stand_upright(self):
        others = [(10, 10, 0), (0, 10, 0), (-10, -10, 0), (10, -10, 0)]
        upright = wheel([(20, 10, 5)] + others, [0] * 5)
        self.assertEqual(plain.normal(upright[0], (0, 2, 3)), (0, 0, 100))
        self.assertEqual(plain.normal(upright[0], (1, 2, 3)), (0, 50, 0))
        self.assertEqual(bar_of(upright, (), 0, 1), "turn")
        leaning = wheel([(20, 9, 5)] + others, [0] * 5)
        self.assertEqual(plain.normal(leaning[0], (1, 2, 3)), (0, 50, 10))
        self.assertIs(bar_of(leaning, (), 0, 1), None)

    def test_places_at_the_bounds(self):
        skin = wheel([(1000, -1000, 1000), (1000, 1000, -1000), (-1000, 1000, 1000), (-1000, -1000, -1000)], [0] * 4)
        for b, a in pairs_of(skin):
            self.assertEqual(bar_of(skin, (), b, a), plain.bar(skin, (), b, a))
        wide = sheet(2, 2)
        wide = (tuple((100 * x - 1000, 1000 - 100 * y, 1000) for x, y, z in wide[0]), wide[1])
        self.assertIs(is_skin(wide), True)
        for b, a in pairs_of(wide):
            self.assertEqual(bar_of(wide, (), b, a), bar_of(sheet(2, 2), (), b, a))

    def test_all_pairs_of_all_forms(self):
        chance = random.Random(31)
        seen = set()
        for name, skin in FORMS.items():
            pairs = pairs_of(skin)
            pairs = tied_pairs(skin) + chance.sample(pairs, min(len(pairs), 60))
            stays = [(), tuple(range(len(skin[0]))), tuple(sorted(chance.sample(range(len(skin[0])), 3)))]
            for stay, (b, a) in itertools.product(stays, pairs):
                words = plain.bars(skin, stay, b, a)
                told = bar_of(skin, stay, b, a)
                self.assertEqual(told, (words + [None])[0], (name, stay, b, a))
                seen.add(tuple(words[:2]))
        words = ["apart", "stays", "mark", "shape", "turn"]
        self.assertLessEqual({()} | {(word,) for word in words}, seen)
        self.assertLessEqual(set(itertools.combinations(words, 2)), seen)


class Drawings(unittest.TestCase):
    def test_by_hand(self):
        skin = wheel(ROUND, [1, 2, 2, 2, 2])
        self.assertEqual(bar_of(skin, (), 0, 3), "mark")
        skin = wheel(ROUND, [4] * 5)
        behind, step = drawn_skin(skin, (), 0, 3)
        self.assertEqual(behind, (skin[0], ((1, 2, 3, 4), (1, 3, 5, 4), (3, 4, 5, 4))))
        self.assertEqual(step, (0, 3, ((0, 1, 2, 4), (0, 2, 3, 4), (0, 3, 4, 4), (0, 4, 5, 4), (0, 5, 1, 4))))

    def test_to_a_lesser_corner(self):
        skin = sheet(2, 2)
        behind, step = drawn_skin(skin, (), 4, 0)
        self.assertEqual(behind, (skin[0], (
            (0, 1, 5, 0), (0, 5, 8, 0), (0, 7, 3, 0), (0, 8, 7, 0), (1, 2, 5, 0), (3, 7, 6, 0))))
        self.assertEqual(step, (4, 0, (
            (0, 1, 4, 0), (0, 4, 3, 0), (1, 5, 4, 0), (3, 4, 7, 0), (4, 5, 8, 0), (4, 8, 7, 0))))

    def test_along_a_rim(self):
        skin = sheet(2, 1)
        self.assertEqual(skin[1], ((0, 1, 4, 0), (0, 4, 3, 0), (1, 2, 5, 0), (1, 5, 4, 0)))
        behind, step = drawn_skin(skin, (), 1, 0)
        self.assertEqual(behind, (skin[0], ((0, 2, 5, 0), (0, 4, 3, 0), (0, 5, 4, 0))))
        self.assertEqual(step, (1, 0, ((0, 1, 4, 0), (1, 2, 5, 0), (1, 5, 4, 0))))

    def test_kinds_of_answers(self):
        told = drawn_skin(sheet(2, 2), (), 4, 0)
        self.assertEqual([type(told), len(told)], [tuple, 2])
        self.assertEqual([type(part) for part in told[1]], [int, int, tuple])

    def test_all_drawings_of_all_forms(self):
        for name, skin in FORMS.items():
            shape, lines = shape_of(skin), lines_of(skin)
            for b, a in tied_pairs(skin):
                word = plain.bar(skin, (), b, a)
                if word is None:
                    behind, step = drawn_skin(skin, (), b, a)
                    self.assertEqual(behind, plain.drawn(skin, b, a), (name, b, a))
                    self.assertEqual(step, (b, a, plain.star(skin, b)))
                    self.assertIs(is_skin(behind), True)
                    self.assertEqual(shape_of(behind), shape, (name, b, a))
                    self.assertEqual(lines_of(behind), lines, (name, b, a))
                    self.assertNotIn(b, plain.corners_of(behind))
                else:
                    self.check_barred(skin, (), b, a, word)

    def check_barred(self, skin, stay, b, a, word):
        with self.assertRaises(Barred) as caught:
            drawn_skin(skin, stay, b, a)
        self.assertIs(type(caught.exception), Barred)
        self.assertEqual(caught.exception.word, word)

    def test_barred_by_each_word(self):
        self.check_barred(sheet(2, 2), (), 0, 8, "apart")
        self.check_barred(sheet(2, 2), (4,), 4, 0, "stays")
        self.check_barred(sheet(2, 2), (4,), 0, 1, "mark")
        self.check_barred(tip(), (), 0, 1, "shape")
        hollow = wheel([(10, 0, 0), (2, 2, 0), (0, 10, 0), (-10, -10, 0)], [0] * 4)
        self.check_barred(hollow, (), 0, 1, "turn")
        self.check_barred(spread(tip()), (), 0, 1, "apart")

    def test_on_and_on(self):
        for name in ["ring", "labelled ring", "bumpy halves", "hole", "three forms", "thin ring", "double ring"]:
            skin, chance = FORMS[name], random.Random(name)
            shape, lines = shape_of(skin), lines_of(skin)
            passed = []
            while let_drawings(skin):
                behind, step = drawn_skin(skin, (), *chance.choice(let_drawings(skin)))
                passed.append((skin, step, behind))
                skin = behind
                self.assertIs(plain.is_skin(skin), True, name)
                self.assertEqual(plain.shape(skin), shape, name)
                self.assertEqual(plain.lines(skin), lines, name)
            self.assertTrue(passed)
            for ahead, step, behind in reversed(passed):
                self.assertEqual(put_back(skin, step), ahead)
                skin = ahead


def spoiled_steps(skin, step):
    """Steps that are nearly this one of the skin."""
    b, a, star = step
    many = len(skin[0])
    yield b, a, ()
    for at, trio in enumerate(star):
        others = star[:at] + star[at + 1:]
        yield b, a, others
        x, y, z, label = trio
        yield b, a, tuple(sorted(others + ((x, z, y, label),)))
        yield b, a, tuple(sorted(others + ((x, y, z, (label + 1) % 10),)))
        yield b, a, tuple(sorted(star + ((x, z, y, label),)))
        yield b, a, tuple(sorted(star + ((x, y, z, (label + 1) % 10),)))
        for k in range(many):
            if k not in (x, y, z):
                for p, q, r in [(x, y, k), (x, k, z), (k, y, z)]:
                    turned = min((p, q, r), (q, r, p), (r, p, q)) + (label,)
                    yield b, a, tuple(sorted(set(others + (turned,))))
                    yield b, a, tuple(sorted(set(star + (turned,))))
    for trio in skin[1]:
        if trio not in star:
            yield b, a, tuple(sorted(star + (trio,)))
    for k in range(many):
        if k not in (a, b):
            yield b, k, star
            yield k, a, star
    yield a, b, star


class PutBack(unittest.TestCase):
    def check_none(self, skin, step):
        with self.assertRaises(NoStep) as caught:
            put_back(skin, step)
        self.assertIs(type(caught.exception), NoStep)

    def test_by_hand(self):
        corners = sheet(2, 1)[0]
        behind = (corners, ((0, 2, 5, 0), (0, 4, 3, 0), (0, 5, 4, 0)))
        star = ((0, 1, 4, 0), (1, 2, 5, 0), (1, 5, 4, 0))
        self.assertEqual(put_back(behind, (1, 0, star)), sheet(2, 1))
        self.check_none(behind, (1, 2, star))
        self.check_none(behind, (1, 5, star))
        self.check_none(behind, (1, 0, star[:2]))
        self.check_none(behind, (1, 0, star[1:]))
        self.check_none(behind, (1, 0, star + ((1, 4, 3, 0),)))
        self.check_none(behind, (1, 0, ()))
        self.check_none(sheet(2, 1), (1, 0, star))

    def test_all_drawings_of_all_forms(self):
        for name, skin in FORMS.items():
            for b, a in let_drawings(skin):
                behind, step = drawn_skin(skin, (), b, a)
                self.assertEqual(put_back(behind, step), skin, (name, b, a))
                self.check_none(skin, step)

    def test_a_star_that_is_let_by_nothing(self):
        # What would come is a skin, but b's kind there is fixed: no drawing is let.
        corners = ((0, 0, 0), (10, 0, 0), (0, 10, 0), (10, 10, 0))
        behind = (corners, ((0, 1, 2, 0),))
        self.assertIs(is_skin((corners, ((0, 1, 2, 0), (1, 3, 2, 0)))), True)
        self.check_none(behind, (3, 1, ((1, 3, 2, 0),)))
        self.check_none(behind, (3, 2, ((1, 3, 2, 0),)))

    def test_whoever_stays(self):
        skin = sheet(2, 2)
        behind, step = drawn_skin(skin, (0, 1, 2, 3), 4, 0)
        self.assertEqual(put_back(behind, step), skin)

    def test_another_way_to_the_same_skin(self):
        # A square's middle may have stood at two places: the star tells which.
        corners = ((0, 0, 0), (10, 0, 0), (10, 10, 0), (0, 10, 0), (4, 5, 0), (6, 5, 0))
        behind = (corners, ((0, 1, 2, 0), (0, 2, 3, 0)))
        for b in (4, 5):
            star = ((0, 1, b, 0), (0, b, 3, 0), (1, 2, b, 0), (2, 3, b, 0))
            self.assertEqual(put_back(behind, (b, 0, star)), (corners, tuple(sorted(star))))
            self.assertEqual(put_back(behind, (b, 2, star)), (corners, tuple(sorted(star))))
            self.check_none(behind, (b, 1, star))
            self.check_none(behind, (b, 3, star))

    def test_spoiled_steps(self):
        for skin in [sheet(2, 2), sheet(3, 2, bumpy(1)), double_tip(5), ring(4, 4), spread(sheet(2, 1))]:
            for b, a in let_drawings(skin)[::3]:
                behind, step = drawn_skin(skin, (), b, a)
                for spoiled in spoiled_steps(skin, step):
                    self.check_spoiled(behind, spoiled, step)

    def check_spoiled(self, behind, spoiled, step):
        """By the same star less moved triangles, which is all that can have stood there."""
        b, a, star = spoiled
        moved = plain.drawn((behind[0], star), b, a)[1]
        others = [trio for trio in behind[1] if trio not in moved]
        there = (behind[0], tuple(sorted(others + list(star))))
        if (plain.is_skin(there) and plain.star(there, b) == star and plain.bar(there, (), b, a) is None
                and plain.drawn(there, b, a) == behind):
            self.assertEqual(put_back(behind, spoiled), there)
        else:
            self.check_none(behind, spoiled)

    def test_stars_of_another_skin(self):
        one, other = sheet(2, 2), sheet(2, 2, label=lambda x, y: 1)
        star = plain.star(other, 4)
        self.check_none(drawn_skin(one, (), 4, 0)[0], (4, 0, star))
        higher = sheet(2, 2, lambda x, y: x)
        star = plain.star(higher, 4)
        self.assertEqual(put_back(drawn_skin(one, (), 4, 0)[0], (4, 0, star)), one)

    def test_all_stars_of_tiny_skins(self):
        corners = ((0, 0, 0), (8, 0, 0), (0, 8, 0), (2, 2, 0), (4, 4, 0))
        tiny = [((0, 1, 2, 0),), ((0, 1, 4, 0), (0, 4, 2, 0)), ((0, 1, 3, 0), (0, 3, 2, 0), (1, 2, 3, 0)),
                ((0, 2, 1, 0),)]
        found = 0
        for triangles in tiny:
            skin = (corners, triangles)
            had = plain.corners_of(skin)
            for b in set(range(5)) - set(had):
                pool = [(x, y, b, 0) for x, y in itertools.permutations(had, 2)]
                pool = sorted({min((x, y, z), (y, z, x), (z, x, y)) + (0,) for x, y, z, label in pool})
                for many, a in itertools.product(range(1, 5), had):
                    for star in itertools.combinations(pool, many):
                        found += self.check_star(skin, (b, a, star))
        self.assertGreater(found, 10)

    def check_star(self, skin, step):
        told = plain.ahead(skin, step)
        self.assertLessEqual(len(told), 1)
        if told:
            self.assertEqual(put_back(skin, step), told[0])
        else:
            self.check_none(skin, step)
        return len(told)


class ShowsStep(unittest.TestCase):
    def test_steps(self):
        for name, skin in FORMS.items():
            for b, a in tied_pairs(skin)[::2]:
                other, step = plain.drawn(skin, b, a), (b, a, plain.star(skin, b))
                let = plain.bar(skin, (), b, a) is None
                self.assertIs(shows_step(skin, step, other), let, (name, b, a))
                self.assertIs(shows_step(skin, step, skin), False)

    def test_spoiled_steps(self):
        for skin in [sheet(2, 2), double_tip(5)]:
            for b, a in let_drawings(skin)[::3]:
                other, step = drawn_skin(skin, (), b, a)
                self.assertIs(shows_step(skin, step, other), True)
                for spoiled in spoiled_steps(skin, step):
                    b, a, star = spoiled
                    # Another step of the same star may lead to the same skin.
                    let = star == plain.star(skin, b) and plain.bar(skin, (), b, a) is None
                    shown = let and plain.drawn(skin, b, a) == other
                    self.assertIs(shows_step(skin, spoiled, other), shown, spoiled)

    def test_spoiled_skins(self):
        skin = sheet(2, 2)
        other, step = drawn_skin(skin, (), 4, 0)
        corners, triangles = other
        for spoiled in [
                (corners, triangles[1:]), (corners, triangles[:-1]), (corners, triangles[::-1]),
                (corners[:-1], triangles), (corners + corners[:1], triangles), (list(corners), triangles),
                (corners, list(triangles)), [corners, triangles], (corners,), (corners, triangles, ()),
                (corners, triangles[:1] + triangles), (((0, 0, 1),) + corners[1:], triangles)]:
            self.assertIs(shows_step(skin, step, spoiled), False)
        for at in range(len(triangles)):
            trio = triangles[at]
            for new in [trio[:3] + (1,), trio[:3], list(trio), trio + (0,), None, trio[:3] + (False,)]:
                spoiled = (corners, triangles[:at] + (new,) + triangles[at + 1:])
                self.assertIs(shows_step(skin, step, spoiled), False, new)

    def test_true_in_the_place_of_one(self):
        corners = ((0, 0, 0), (5, 0, 0), (1, 1, 0), (0, 5, 0))
        skin = make_skin(corners, [(2, 0, 1, 1), (2, 1, 3, 1), (2, 3, 0, 1)])
        self.assertIs(is_skin(skin), True)
        other, step = drawn_skin(skin, (), 2, 1)
        told = (other, step)
        for changed in with_truths(told):
            self.assertEqual(changed, told)
            self.assertIs(shows_step(skin, changed[1], changed[0]), False, repr(changed))
        self.assertIs(shows_step(skin, step, other), True)

    def test_odd_things(self):
        skin = sheet(2, 2)
        other, step = drawn_skin(skin, (), 4, 0)
        b, a, star = step
        for thing in odd_things():
            for steps in [thing, (thing, a, star), (b, thing, star), (b, a, thing), (b, a, (thing,)), (thing, thing),
                          (b, a, star, thing), (b, a, star[:-1] + (thing,)), [b, a, star], (b, a), (b, b, star)]:
                self.assertIs(shows_step(skin, steps, other), repr(steps) == repr(step))
                self.assertIs(shows_step(skin, steps, thing), False)
            self.assertIs(shows_step(skin, step, thing), False)
            self.assertIs(shows_step(skin, step, (thing, other[1])), False)
            self.assertIs(shows_step(skin, step, (other[0], thing)), False)

    def test_numbers_that_are_no_corners(self):
        skin = sheet(2, 2)
        other, step = drawn_skin(skin, (), 4, 0)
        for number in [-1, -5, 9, 10 ** 20]:
            self.assertIs(shows_step(skin, (number, 0, step[2]), other), False)
            self.assertIs(shows_step(skin, (4, number, step[2]), other), False)
            self.assertIs(shows_step(skin, (number, 0, ()), skin), False)


if __name__ == "__main__":
    unittest.main()
