"""[3]: places, vectors and fractions."""

import copy
import itertools
import math
import random
import unittest
from fractions import Fraction

from things import odd_things
from thinskin.space import compare_two, cross_of, dot_of, fraction_of, is_place, less_by, normal_of

SIZES = [1, 3, 1000, 10 ** 12, 10 ** 33]


def vectors(seed, count):
    """Tuples of count vectors, of small and of large numbers."""
    chance = random.Random(seed)
    for size in SIZES:
        for _ in range(60):
            yield [tuple(chance.randint(-size, size) for _ in range(3)) for _ in range(count)]


class Places(unittest.TestCase):
    def test_places(self):
        for place in [(0, 0, 0), (1, -2, 3), (999, -999, 0)]:
            self.assertIs(is_place(place), True, place)

    def test_bounds(self):
        for at in range(3):
            for part, good in [(1000, True), (-1000, True), (1001, False), (-1001, False), (10 ** 30, False)]:
                place = [0, 0, 0]
                place[at] = part
                self.assertIs(is_place(tuple(place)), good, place)
        for place in itertools.product((-1000, 1000), repeat=3):
            self.assertIs(is_place(place), True, place)

    def test_true_and_false_are_no_numbers(self):
        for at in range(3):
            for truth in [True, False]:
                place = [1, 0, 1]
                place[at] = truth
                self.assertIs(is_place(tuple(place)), False, place)

    def test_other_things(self):
        for thing in odd_things():
            kept = copy.deepcopy(thing)
            self.assertIs(is_place(thing), False, repr(thing)[:80])
            self.assertEqual(thing, kept)


class Vectors(unittest.TestCase):
    def test_by_hand(self):
        self.assertEqual(less_by((1, 2, 3), (10, 0, -5)), (-9, 2, 8))
        self.assertEqual(cross_of((1, 0, 0), (0, 1, 0)), (0, 0, 1))
        self.assertEqual(cross_of((0, 1, 0), (0, 0, 1)), (1, 0, 0))
        self.assertEqual(cross_of((0, 0, 1), (1, 0, 0)), (0, 1, 0))
        self.assertEqual(cross_of((1, 2, 3), (4, 5, 6)), (-3, 6, -3))
        self.assertEqual(dot_of((1, 2, 3), (4, -5, 6)), 12)
        self.assertEqual(normal_of((1, 1, 1), (2, 1, 1), (1, 3, 1)), (0, 0, 2))
        self.assertEqual(normal_of((0, 0, 0), (1, 1, 1), (2, 2, 2)), (0, 0, 0))

    def test_numbers_of_thirty_figures_and_more(self):
        big = 10 ** 30
        self.assertEqual(less_by((big + 1, 0, -big), (1, big, big)), (big, -big, -2 * big))
        self.assertEqual(cross_of((big, 0, 1), (0, big, 1)), (-big, -big, big * big))
        self.assertEqual(dot_of((big, big, 1), (big, -big, 7)), 7)
        self.assertEqual(normal_of((big, big, big), (big + 1, big, big), (big, big + 1, big)), (0, 0, 1))

    def test_against_the_formulas(self):
        for one, other in vectors(1, 2):
            (x1, y1, z1), (x2, y2, z2) = one, other
            self.assertEqual(less_by(one, other), (x1 - x2, y1 - y2, z1 - z2))
            self.assertEqual(cross_of(one, other), (y1 * z2 - z1 * y2, z1 * x2 - x1 * z2, x1 * y2 - y1 * x2))
            self.assertEqual(dot_of(one, other), x1 * x2 + y1 * y2 + z1 * z2)

    def test_kinds_of_answers(self):
        for a, b, c in vectors(2, 3):
            for told in [less_by(a, b), cross_of(a, b), normal_of(a, b, c)]:
                self.assertIs(type(told), tuple)
                self.assertEqual([type(part) for part in told], [int, int, int])
            self.assertIs(type(dot_of(a, b)), int)

    def test_the_cross_of_a_vector_and_a_multiple_of_it(self):
        for one, other in vectors(3, 2):
            for times in [0, 1, -1, 7, -10 ** 31]:
                multiple = tuple(times * part for part in one)
                self.assertEqual(cross_of(one, multiple), (0, 0, 0))
                self.assertEqual(cross_of(multiple, one), (0, 0, 0))

    def test_the_cross_is_square_to_both(self):
        for one, other in vectors(4, 2):
            cross = cross_of(one, other)
            self.assertEqual(dot_of(cross, one), 0)
            self.assertEqual(dot_of(cross, other), 0)
            self.assertEqual(cross_of(other, one), tuple(-part for part in cross))

    def test_normals_in_other_orders(self):
        for a, b, c in vectors(5, 3):
            normal = normal_of(a, b, c)
            turned = tuple(-part for part in normal)
            self.assertEqual(normal, cross_of(less_by(b, a), less_by(c, a)))
            self.assertEqual(normal_of(b, c, a), normal)
            self.assertEqual(normal_of(c, a, b), normal)
            self.assertEqual(normal_of(a, c, b), turned)
            self.assertEqual(normal_of(b, a, c), turned)
            self.assertEqual(normal_of(c, b, a), turned)


class FractionsOf(unittest.TestCase):
    def check(self, n, d):
        told = fraction_of(n, d)
        self.assertIs(type(told), tuple)
        self.assertEqual([type(part) for part in told], [int, int])
        above, below = told
        self.assertGreater(below, 0)
        self.assertEqual(math.gcd(above, below), 1)
        self.assertEqual(above * d, n * below)

    def test_by_hand(self):
        self.assertEqual(fraction_of(6, 4), (3, 2))
        self.assertEqual(fraction_of(-6, 4), (-3, 2))
        self.assertEqual(fraction_of(6, -4), (-3, 2))
        self.assertEqual(fraction_of(-6, -4), (3, 2))
        self.assertEqual(fraction_of(7, 1), (7, 1))
        self.assertEqual(fraction_of(7, -1), (-7, 1))
        self.assertEqual(fraction_of(5, 5), (1, 1))
        self.assertEqual(fraction_of(-5, 5), (-1, 1))
        self.assertEqual(fraction_of(12, 4), (3, 1))
        self.assertEqual(fraction_of(4, 12), (1, 3))

    def test_nought(self):
        for d in [1, -1, 2, -9, 10 ** 40, -10 ** 40]:
            self.assertEqual(fraction_of(0, d), (0, 1))

    def test_all_small_ones(self):
        for n in range(-30, 31):
            for d in range(-30, 31):
                if d:
                    self.check(n, d)

    def test_numbers_of_forty_figures(self):
        chance = random.Random(6)
        for _ in range(300):
            factor = chance.randint(1, 10 ** chance.randint(0, 20))
            n = factor * chance.randint(-10 ** 40, 10 ** 40)
            d = factor * chance.choice([-1, 1]) * chance.randint(1, 10 ** 40)
            self.check(n, d)
        big = 3 ** 84
        self.assertEqual(fraction_of(-2 * big, -5 * big), (2, 5))
        self.assertEqual(fraction_of(10 ** 40 + 1, -10 ** 40), (-10 ** 40 - 1, 10 ** 40))


class Comparisons(unittest.TestCase):
    def check(self, one, other, told):
        self.assertIs(type(compare_two(one, other)), int)
        self.assertEqual(compare_two(one, other), told, (one, other))
        self.assertEqual(compare_two(other, one), -told, (other, one))

    def test_by_hand(self):
        self.check((1, 2), (2, 3), -1)
        self.check((-1, 2), (-2, 3), 1)
        self.check((-1, 2), (1, 3), -1)
        self.check((0, 1), (1, 10 ** 40), -1)
        self.check((0, 1), (-1, 10 ** 40), 1)
        self.check((5, 7), (5, 7), 0)
        self.check((0, 1), (0, 1), 0)
        self.check((-4, 1), (-4, 1), 0)

    def test_those_that_differ_by_very_little(self):
        big = 10 ** 40
        self.check((big, big + 1), (big + 1, big + 2), -1)
        self.check((-big, big + 1), (-big - 1, big + 2), 1)
        self.check((1, big), (1, big + 1), 1)
        self.check((big, 1), (big + 1, 1), -1)
        self.check((big * big + 1, big), (big, 1), 1)

    def test_all_small_ones(self):
        pairs = sorted({fraction_of(n, d) for n in range(-7, 8) for d in range(1, 7)})
        for one, other in itertools.product(pairs, repeat=2):
            left, right = Fraction(*one), Fraction(*other)
            self.check(one, other, (left > right) - (left < right))


if __name__ == "__main__":
    unittest.main()
