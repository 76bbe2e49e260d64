"""[15]: which steps lean on which, closed choices, and skins behind them."""

import copy
import random
import unittest

import plain
import plain_steps
from forms import beside, sheet
from histories import all_histories, small_histories, thinned_steps
from things import check_own
from thinskin.drawing import put_back
from thinskin.errors import NotClosed
from thinskin.fronts import is_closed, leans_of, mixed_skin, touched_by, with_leans, without_these
from thinskin.thinner import Thinner

HISTORIES = all_histories()
SMALL = small_histories()


def choices_by_chance(steps, seed, many):
    chance = random.Random(seed)
    for _ in range(many):
        share = chance.random()
        yield [k for k in range(len(steps)) if chance.random() < share]


class Leans(unittest.TestCase):
    def test_touched_by_hand(self):
        star = ((0, 1, 4, 0), (0, 4, 3, 0), (1, 5, 4, 0), (3, 4, 7, 0), (4, 5, 8, 0), (4, 8, 7, 0))
        self.assertEqual(touched_by((4, 0, star)), [0, 1, 3, 4, 5, 7, 8])
        self.assertEqual(touched_by((1, 0, ((0, 1, 4, 0), (1, 2, 5, 0), (1, 5, 4, 0)))), [0, 1, 2, 4, 5])

    def test_touched_by_steps(self):
        for name, (first, steps) in HISTORIES.items():
            for step in steps:
                told = touched_by(step)
                self.assertIs(type(told), list)
                self.assertEqual(told, plain_steps.touched(step), name)
                self.assertIn(step[0], told)
                self.assertIn(step[1], told)

    def test_leans_by_hand(self):
        thinner = Thinner(sheet(4, 1), ())
        for b, a in [(1, 0), (3, 4), (2, 0), (6, 5)]:
            thinner.draw_to(b, a)
        steps = thinner.steps_done()
        self.assertEqual(touched_by(steps[0]), [0, 1, 2, 6, 7])
        self.assertEqual(touched_by(steps[1]), [2, 3, 4, 8, 9])
        self.assertEqual(touched_by(steps[2]), [0, 2, 4, 7, 8])
        self.assertEqual(leans_of(steps), [[], [], [0, 1], [0]])

    def test_leaning_by_a_alone_and_by_b_alone(self):
        by_a, by_b = 0, 0
        for first, steps in HISTORIES.values():
            for number, on in enumerate(leans_of(steps)):
                for k in on:
                    b, a = [corner in touched_by(steps[k]) for corner in steps[number][:2]]
                    by_a += a and not b
                    by_b += b and not a
        self.assertGreater(by_a, 0)
        self.assertGreater(by_b, 0)

    def test_leans_of_steps(self):
        for name, (first, steps) in HISTORIES.items():
            told = leans_of(steps)
            self.assertEqual(told, plain_steps.leans(steps), name)
            self.assertIs(type(told), list)
            self.assertEqual({type(on) for on in told} - {list}, set())
            for number, on in enumerate(told):
                self.assertEqual(on, sorted(set(on)))
                self.assertTrue(all(0 <= k < number for k in on))

    def test_of_no_steps(self):
        self.assertEqual(leans_of([]), [])
        self.assertIs(is_closed([], []), True)
        self.assertEqual(with_leans([], []), [])
        self.assertEqual(without_these([], []), [])
        self.assertEqual(mixed_skin(sheet(1, 1), [], []), sheet(1, 1))


class Choices(unittest.TestCase):
    def test_all_choices_of_few_steps(self):
        for name, (first, steps) in SMALL.items():
            closed = [set(choice) for choice in plain_steps.closed_choices(steps)]
            for choice in plain_steps.all_choices(steps):
                self.assertIs(is_closed(steps, choice), set(choice) in closed, (name, choice))
                above = [one for one in closed if one >= set(choice)]
                self.assertEqual(with_leans(steps, choice), sorted(set.intersection(*above)), (name, choice))
                apart = [one for one in closed if not one & set(choice)]
                self.assertEqual(without_these(steps, choice), sorted(set.union(*apart)), (name, choice))

    def test_none_and_all(self):
        for name, (first, steps) in HISTORIES.items():
            every = list(range(len(steps)))
            self.assertIs(is_closed(steps, []), True)
            self.assertIs(is_closed(steps, every), True)
            self.assertEqual(with_leans(steps, []), [])
            self.assertEqual(with_leans(steps, every), every)
            self.assertEqual(without_these(steps, []), every)
            self.assertEqual(without_these(steps, every), [])

    def test_one_that_lacks_a_step(self):
        found = 0
        for name, (first, steps) in HISTORIES.items():
            every = list(range(len(steps)))
            for on in leans_of(steps):
                for k in on[:3]:
                    found += 1
                    self.assertIs(is_closed(steps, every[:k] + every[k + 1:]), False, name)
        self.assertGreater(found, 100)

    def test_larger_ones(self):
        for name, (first, steps) in HISTORIES.items():
            on = plain_steps.leans(steps)
            for choice in choices_by_chance(steps, name, 8):
                self.assertIs(is_closed(steps, choice), plain_steps.is_closed(steps, choice), name)
                self.check_least(steps, on, choice, with_leans(steps, choice))
                self.assertEqual(without_these(steps, choice), plain_steps.without(steps, choice), name)

    def check_least(self, steps, on, choice, told):
        self.assertEqual(told, sorted(set(told)))
        self.assertLessEqual(set(choice), set(told))
        self.assertIs(plain_steps.is_closed(steps, told), True)
        # Each one is chosen, or some one in it leans on it.
        for number in told:
            self.assertTrue(number in choice or any(number in on[k] for k in told))

    def test_kinds_of_answers(self):
        first, steps = HISTORIES["ring"]
        self.assertIs(type(with_leans(steps, [3, 5])), list)
        self.assertIs(type(without_these(steps, [3, 5])), list)
        self.assertEqual({type(k) for k in with_leans(steps, [3, 5])}, {int})


class Mixed(unittest.TestCase):
    def check_not_closed(self, first, steps, choice):
        with self.assertRaises(NotClosed) as caught:
            mixed_skin(first, steps, choice)
        self.assertIs(type(caught.exception), NotClosed)

    def test_all_choices_of_few_steps(self):
        for name, (first, steps) in SMALL.items():
            shape, lines = plain.shape(first), plain.lines(first)
            closed = plain_steps.closed_choices(steps)
            for choice in plain_steps.all_choices(steps)[::3]:
                if choice not in closed:
                    self.check_not_closed(first, steps, choice)
            for choice in closed[::4] + closed[-1:]:
                told = mixed_skin(first, steps, choice)
                self.assertEqual(told, plain_steps.mixed(first, steps, choice), (name, choice))
                self.assertEqual(plain.shape(told), shape, name)
                self.assertEqual(plain.lines(told), lines, name)

    def test_none_and_all(self):
        for name, (first, steps) in HISTORIES.items():
            self.assertEqual(mixed_skin(first, steps, []), first, name)
            skin = first
            for k, step in enumerate(steps):
                skin = plain.drawn(skin, *step[:2])
                if k % 9 == 0:
                    self.assertEqual(mixed_skin(first, steps, list(range(k + 1))), skin, name)
            self.assertEqual(mixed_skin(first, steps, list(range(len(steps)))), skin, name)

    def test_closed_ones_in_between(self):
        for name, (first, steps) in HISTORIES.items():
            shape, lines = plain.shape(first), plain.lines(first)
            for choice in choices_by_chance(steps, name, 2):
                for closed in [with_leans(steps, choice), without_these(steps, choice)]:
                    told = mixed_skin(first, steps, closed)
                    self.assertEqual(told, plain_steps.mixed(first, steps, closed), name)
                    self.assertIs(plain.is_skin(told), True, name)
                    self.assertEqual(plain.shape(told), shape, name)
                    self.assertEqual(plain.lines(told), lines, name)

    def test_not_closed(self):
        for name, (first, steps) in HISTORIES.items():
            for number, on in list(enumerate(leans_of(steps)))[:12]:
                if on:
                    self.check_not_closed(first, steps, [number])
                    self.check_not_closed(first, steps, on[1:] + [number])

    def test_two_finenesses_side_by_side(self):
        first = beside(sheet(3, 3), sheet(3, 3))
        steps = thinned_steps(first)
        left = [k for k, step in enumerate(steps) if step[0] < 16]
        self.assertIs(is_closed(steps, left), True)
        told = mixed_skin(first, steps, left)
        self.assertEqual(len([trio for trio in told[1] if trio[0] < 16]), 2)
        self.assertEqual([trio for trio in told[1] if trio[0] >= 16], [trio for trio in first[1] if trio[0] >= 16])

    def test_taken_back_from_a_mixed_skin(self):
        first, steps = HISTORIES["ring by chance"]
        choice = without_these(steps, [4, 9])
        skin = mixed_skin(first, steps, choice)
        for k in reversed(choice):
            skin = put_back(skin, steps[k])
        self.assertEqual(skin, first)


class Own(unittest.TestCase):
    def test_nothing_handed_in_is_changed(self):
        first, steps = HISTORIES["labelled ring"]
        choice = without_these(steps, [2])
        kept_steps, kept_choice = copy.deepcopy(steps), list(choice)
        for ask in [lambda: leans_of(steps), lambda: is_closed(steps, choice), lambda: with_leans(steps, choice),
                    lambda: without_these(steps, choice), lambda: mixed_skin(first, steps, choice)]:
            ask()
            self.assertEqual((steps, choice), (kept_steps, kept_choice))

    def test_what_is_told_is_the_askers_own(self):
        for name in ["ring", "halves", "tube by chance"]:
            first, steps = HISTORIES[name]
            choice = without_these(steps, [3])
            for ask in [lambda: leans_of(steps), lambda: touched_by(steps[0]), lambda: with_leans(steps, choice),
                        lambda: with_leans(steps, [2]), lambda: without_these(steps, [2]), lambda: with_leans(steps, []),
                        lambda: mixed_skin(first, steps, choice)]:
                check_own(self, ask)
            self.assertIsNot(with_leans(steps, choice), choice)
            told = with_leans(steps, choice)
            told.clear()
            self.assertEqual(choice, without_these(steps, [3]))


if __name__ == "__main__":
    unittest.main()
