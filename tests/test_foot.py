"""[4]: the nearest point of a flake.

The check of nearest points is not the program's way of finding them: a point of
a flake is the nearest to a vector just where no corner lies, from it, on the
vector's side.
"""

import copy
import itertools
import math
import random
import unittest
from fractions import Fraction

from things import odd_things
from thinskin.foot import foot_on, shows_foot, square_to
from thinskin.space import normal_of

BIG = 10 ** 30
PLAIN = ((0, 0, 0), (4, 0, 0), (0, 4, 0))
SKEW = ((1, 0, 0), (0, 1, 0), (0, 0, 1))
THIN = ((0, 0, 0), (1000, 1, 0), (2000, 3, 0))
FLAKES = [
    PLAIN,
    SKEW,
    THIN,
    ((0, 0, 0), (9, 0, 0), (-8, 1, 0)),
    ((0, 0, 0), (1, 0, 0), (1000, 1, 1)),
    ((3, -2, 5), (-7, 4, 1), (2, 2, -9)),
    ((0, 0, 0), (10 ** 15, 10 ** 15 + 1, 0), (10 ** 15 + 1, 10 ** 15 + 2, 0)),
    ((BIG, BIG, BIG), (BIG + 1, BIG, BIG), (BIG, BIG + 1, BIG)),
    ((-BIG, BIG, -BIG), (1 - BIG, BIG + 2, 3 - BIG), (-BIG, BIG + 1, 5 - BIG)),
    ((-BIG, -BIG, 0), (BIG, -BIG, 1), (0, BIG, -BIG)),
    ((0, 0, 0), (BIG, 0, 0), (BIG, 1, 0)),
]


def dot(one, other):
    return sum(x * y for x, y in zip(one, other))


def less(one, other):
    return [x - y for x, y in zip(one, other)]


def as_point(told):
    return [Fraction(n, d) for n, d in told]


def is_in_flake(flake, point):
    """By the areas that the point makes with each side, all on one side."""
    a, b, c = flake
    normal = normal_of(a, b, c)
    if dot(normal, less(point, a)) != 0:
        return False
    turns = [(a, b), (b, c), (c, a)]
    return all(dot(normal, normal_of(one, other, point)) >= 0 for one, other in turns)


def around(flake, seed):
    """Vectors on, above, and beyond the sides and corners of a flake."""
    a, b, c = flake
    chance = random.Random(seed)
    normal = normal_of(a, b, c)
    found = [a, b, c]
    shares = list(itertools.product((-7, -1, 0, 1, 2, 9), repeat=2))
    for to_b, to_c in shares:
        in_plane = tuple(x + to_b * (y - x) + to_c * (z - x) for x, y, z in zip(a, b, c))
        found.append(in_plane)
        found.append(tuple(x + chance.choice((-2, 1)) * n for x, n in zip(in_plane, normal)))
    for size in [3, 50, 10 ** 31]:
        for corner in flake:
            for _ in range(8):
                found.append(tuple(x + chance.randint(-size, size) for x in corner))
    return found


def small_flakes(seed, count):
    chance = random.Random(seed)
    while count:
        flake = tuple(tuple(chance.randint(-4, 4) for _ in range(3)) for _ in range(3))
        if normal_of(*flake) != (0, 0, 0):
            count -= 1
            yield flake


class NearestPoints(unittest.TestCase):
    def check(self, flake, vector):
        told = foot_on(flake, vector)
        self.assertIs(type(told), tuple)
        self.assertEqual([type(part) for part in told], [tuple, tuple, tuple])
        for part in told:
            self.assertEqual([type(number) for number in part], [int, int])
            self.assertGreater(part[1], 0)
            self.assertEqual(math.gcd(*part), 1)
        point = as_point(told)
        self.assertTrue(is_in_flake(flake, point), (flake, vector, told))
        way = less(vector, point)
        for corner in flake:
            self.assertLessEqual(dot(way, less(corner, point)), 0, (flake, vector, told))
        square = square_to(flake, vector)
        self.assertIs(type(square), tuple)
        self.assertEqual([type(number) for number in square], [int, int])
        self.assertEqual(square, dot(way, way).as_integer_ratio())
        self.assertEqual(square == (0, 1), is_in_flake(flake, vector))
        self.assertIs(shows_foot(flake, vector, told), True)
        self.assertEqual(foot_on(flake, vector), told)

    def test_by_hand(self):
        told = [
            ((1, 1, 5), (1, 1, 0), (25, 1)),
            ((1, 1, -5), (1, 1, 0), (25, 1)),
            ((1, 1, 0), (1, 1, 0), (0, 1)),
            ((0, 0, 0), (0, 0, 0), (0, 1)),
            ((4, 0, 0), (4, 0, 0), (0, 1)),
            ((0, 4, 0), (0, 4, 0), (0, 1)),
            ((2, 0, 0), (2, 0, 0), (0, 1)),
            ((0, 3, 0), (0, 3, 0), (0, 1)),
            ((1, 3, 0), (1, 3, 0), (0, 1)),
            ((1, 3, 2), (1, 3, 0), (4, 1)),
            ((1, -3, 2), (1, 0, 0), (13, 1)),
            ((-2, 1, 0), (0, 1, 0), (4, 1)),
            ((4, 4, 0), (2, 2, 0), (8, 1)),
            ((-1, -1, 1), (0, 0, 0), (3, 1)),
            ((9, -1, 0), (4, 0, 0), (26, 1)),
            ((9, 1, 0), (4, 0, 0), (26, 1)),
            ((-1, 9, 0), (0, 4, 0), (26, 1)),
            ((1, 9, 7), (0, 4, 0), (75, 1)),
        ]
        for vector, foot, square in told:
            self.assertEqual(foot_on(PLAIN, vector), tuple((part, 1) for part in foot), vector)
            self.assertEqual(square_to(PLAIN, vector), square, vector)

    def test_fractions_by_hand(self):
        self.assertEqual(foot_on(PLAIN, (3, 4, 1)), ((3, 2), (5, 2), (0, 1)))
        self.assertEqual(square_to(PLAIN, (3, 4, 1)), (11, 2))
        self.assertEqual(foot_on(SKEW, (0, 0, 0)), ((1, 3), (1, 3), (1, 3)))
        self.assertEqual(square_to(SKEW, (0, 0, 0)), (1, 3))
        self.assertEqual(square_to(SKEW, (1, 1, 1)), (4, 3))

    def test_far_off_and_tiny_by_hand(self):
        flake = ((BIG, BIG, BIG), (BIG + 1, BIG, BIG), (BIG, BIG + 1, BIG))
        self.assertEqual(foot_on(flake, (BIG + 1, BIG + 1, BIG + 1)),
                         ((2 * BIG + 1, 2), (2 * BIG + 1, 2), (BIG, 1)))
        self.assertEqual(square_to(flake, (BIG + 1, BIG + 1, BIG + 1)), (3, 2))
        self.assertEqual(foot_on(flake, (0, 0, 0)), ((BIG, 1), (BIG, 1), (BIG, 1)))
        self.assertEqual(square_to(flake, (0, 0, 0)), (3 * BIG * BIG, 1))

    def test_very_thin_by_hand(self):
        flake = ((0, 0, 0), (BIG, 0, 0), (BIG, 1, 0))
        self.assertEqual(foot_on(flake, (-1, 0, 0)), ((0, 1), (0, 1), (0, 1)))
        self.assertEqual(foot_on(flake, (7, -3, 2)), ((7, 1), (0, 1), (0, 1)))
        self.assertEqual(foot_on(flake, (BIG + 5, 9, 0)), ((BIG, 1), (1, 1), (0, 1)))

    def test_all_round_each_flake(self):
        for number, flake in enumerate(FLAKES):
            for vector in around(flake, number):
                self.check(flake, vector)

    def test_small_flakes(self):
        for number, flake in enumerate(small_flakes(11, 60)):
            for vector in around(flake, 100 + number)[:50]:
                self.check(flake, vector)

    def test_a_whole_grid(self):
        flakes = [PLAIN, ((0, 0, 0), (5, 0, 0), (-3, 1, 0)), ((-2, 3, 1), (2, -1, 0), (3, -2, 1))]
        for flake in flakes:
            for vector in itertools.product(range(-5, 7), range(-5, 7), (-1, 0, 2)):
                self.check(flake, vector)


class Squares(unittest.TestCase):
    def cases(self):
        for number, flake in enumerate(FLAKES + list(small_flakes(12, 25))):
            vectors = around(flake, 200 + number)
            for vector in random.Random(number).sample(vectors, 12):
                yield flake, vector

    def test_corners_in_any_order(self):
        for flake, vector in self.cases():
            for turned in itertools.permutations(flake):
                self.assertEqual(square_to(turned, vector), square_to(flake, vector))
                self.assertEqual(foot_on(turned, vector), foot_on(flake, vector))

    def test_all_moved_alike(self):
        for flake, vector in self.cases():
            for by in [(1, 2, 3), (-BIG, 7, BIG)]:
                moved = tuple(tuple(x + y for x, y in zip(corner, by)) for corner in flake)
                beside = tuple(x + y for x, y in zip(vector, by))
                self.assertEqual(square_to(moved, beside), square_to(flake, vector))

    def test_axes_in_another_order(self):
        for flake, vector in self.cases():
            for order in itertools.permutations(range(3)):
                other = tuple(tuple(corner[k] for k in order) for corner in flake)
                self.assertEqual(square_to(other, tuple(vector[k] for k in order)), square_to(flake, vector))


def spoiled(told):
    """Things that are nearly what was told."""
    for at in range(3):
        for side in range(2):
            for by in [-1, 1]:
                parts = [list(part) for part in told]
                parts[at][side] += by
                yield tuple(tuple(part) for part in parts)
        for times in [-1, 2, 3]:
            yield tuple((n * times, d * times) if k == at else (n, d) for k, (n, d) in enumerate(told))
        yield tuple(list(part) if k == at else part for k, part in enumerate(told))
        yield tuple(part[::-1] + (1,) if k == at else part for k, part in enumerate(told))
        yield tuple(part[:1] if k == at else part for k, part in enumerate(told))
        yield tuple(part[0] if k == at else part for k, part in enumerate(told))
        yield tuple(str(part) if k == at else part for k, part in enumerate(told))
        yield tuple(None if k == at else part for k, part in enumerate(told))
    yield list(told)
    yield told[:2]
    yield told + told[:1]
    yield (told,)
    yield [told]
    yield tuple(number for part in told for number in part)
    yield str(told)


class Shown(unittest.TestCase):
    def test_nearly_right_ones(self):
        for number, flake in enumerate(FLAKES):
            for vector in around(flake, 300 + number)[::9]:
                told = foot_on(flake, vector)
                self.assertIs(shows_foot(flake, vector, told), True)
                for thing in spoiled(told):
                    self.assertIs(shows_foot(flake, vector, thing), False, thing)

    def test_true_in_the_place_of_one_and_false_of_nought(self):
        self.assertIs(shows_foot(PLAIN, (1, 0, 3), ((1, 1), (0, 1), (0, 1))), True)
        for at, side in itertools.product(range(3), range(2)):
            parts = [[1, 1], [0, 1], [0, 1]]
            parts[at][side] = bool(parts[at][side])
            thing = tuple(tuple(part) for part in parts)
            self.assertIs(shows_foot(PLAIN, (1, 0, 3), thing), False, thing)

    def test_other_points_of_the_flake(self):
        points = [((x, 1), (y, 1), (0, 1)) for x in range(5) for y in range(5 - x)]
        for vector in [(1, 1, 1), (-1, 2, 0), (9, 0, 0), (0, 0, 4), (1, 3, 0)]:
            shown = [point for point in points if shows_foot(PLAIN, vector, point)]
            self.assertEqual(shown, [foot_on(PLAIN, vector)])

    def test_odd_things(self):
        for vector in [(0, 0, 0), (1, 1, 1), (9, -9, 2)]:
            for thing in odd_things():
                kept = copy.deepcopy(thing)
                self.assertIs(shows_foot(PLAIN, vector, thing), False, repr(thing)[:80])
                self.assertEqual(thing, kept)


if __name__ == "__main__":
    unittest.main()
