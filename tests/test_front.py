"""[16]: a front, its steps done and taken back in any order that is let."""

import random
import unittest

import plain
import plain_steps
from forms import beside, sheet, tip
from histories import all_histories, small_histories, thinned_steps
from things import check_own
from thinskin.errors import NoStep, NotYet
from thinskin.front import Front
from thinskin.fronts import mixed_skin

HISTORIES = all_histories()
SMALL = small_histories()


def answers(front):
    return (front.skin_now(), front.steps_in(), front.can_do(), front.can_undo())


class Cases(unittest.TestCase):
    def check_refused(self, front, deed, k, error):
        before = answers(front)
        with self.assertRaises(error) as caught:
            deed(k)
        self.assertIs(type(caught.exception), error)
        self.assertEqual(answers(front), before)

    def check_stands(self, front, first, steps, on, done):
        self.assertEqual(front.steps_in(), sorted(done))
        self.assertEqual(front.skin_now(), mixed_skin(first, steps, sorted(done)))
        can_do = [k for k in range(len(steps)) if k not in done and set(on[k]) <= done]
        can_undo = [k for k in sorted(done) if not any(k in on[other] for other in done)]
        self.assertEqual(front.can_do(), can_do)
        self.assertEqual(front.can_undo(), can_undo)


class Beginning(Cases):
    def test_none_done(self):
        for name, (first, steps) in HISTORIES.items():
            front = Front(first, steps)
            self.check_stands(front, first, steps, plain_steps.leans(steps), set())
            self.assertEqual(front.skin_now(), first)
            self.assertEqual(front.steps_in(), [])
            self.assertEqual(front.can_undo(), [])

    def test_of_no_steps(self):
        front = Front(tip(), [])
        self.assertEqual(answers(front), (tip(), [], [], []))
        for k in [-1, 0, 1]:
            self.check_refused(front, front.do_step, k, NoStep)
            self.check_refused(front, front.undo_step, k, NoStep)


class Refusals(Cases):
    def test_no_such_number(self):
        first, steps = HISTORIES["ring"]
        for done in [0, 3, len(steps)]:
            front = Front(first, steps)
            for k in range(done):
                front.do_step(k)
            for k in [-1, -2, -len(steps), -len(steps) - 1, len(steps), len(steps) + 1, 10 ** 30, -10 ** 30]:
                self.check_refused(front, front.do_step, k, NoStep)
                self.check_refused(front, front.undo_step, k, NoStep)

    def test_done_already(self):
        for name, (first, steps) in SMALL.items():
            front = Front(first, steps)
            for k in range(len(steps)):
                self.assertIs(front.do_step(k), None)
                for done in range(k + 1):
                    self.check_refused(front, front.do_step, done, NotYet)

    def test_leans_that_are_not_done(self):
        found = 0
        for name, (first, steps) in HISTORIES.items():
            front = Front(first, steps)
            for k, on in list(enumerate(plain_steps.leans(steps)))[:15]:
                if on:
                    found += 1
                    self.check_refused(front, front.do_step, k, NotYet)
        self.assertGreater(found, 50)

    def test_all_leans_but_one(self):
        first, steps = HISTORIES["bumpy sheet"]
        on = plain_steps.leans(steps)
        k = next(k for k in range(len(steps)) if len(on[k]) > 2)
        for lacking in on[k]:
            front = Front(first, steps)
            for j in plain_steps.without(steps, [lacking]):
                if j < k:
                    front.do_step(j)
            self.check_refused(front, front.do_step, k, NotYet)

    def test_undo_of_one_that_is_not_done(self):
        for name, (first, steps) in SMALL.items():
            front = Front(first, steps)
            for k in range(len(steps)):
                self.check_refused(front, front.undo_step, k, NotYet)
            for k in range(len(steps)):
                front.do_step(k)
            for k in reversed(range(len(steps))):
                self.assertIs(front.undo_step(k), None)
                self.check_refused(front, front.undo_step, k, NotYet)

    def test_undo_of_one_that_a_done_step_leans_on(self):
        found = 0
        for name, (first, steps) in SMALL.items():
            front = Front(first, steps)
            for k in range(len(steps)):
                front.do_step(k)
            leant_on = {k for on in plain_steps.leans(steps) for k in on}
            for k in leant_on:
                found += 1
                self.check_refused(front, front.undo_step, k, NotYet)
            self.assertEqual(front.can_undo(), [k for k in range(len(steps)) if k not in leant_on])
        self.assertGreater(found, 20)

    def test_undo_where_only_an_undone_step_leans_on_it(self):
        first, steps = HISTORIES["sheet"]
        on = plain_steps.leans(steps)
        k = next(k for k in range(len(steps)) if on[k])
        front = Front(first, steps)
        for j in range(k + 1):
            front.do_step(j)
        self.check_refused(front, front.undo_step, on[k][-1], NotYet)
        front.undo_step(k)
        front.undo_step(on[k][-1])
        self.assertNotIn(on[k][-1], front.steps_in())


class Deeds(Cases):
    def test_told_is_none(self):
        front = Front(sheet(2, 2), thinned_steps(sheet(2, 2)))
        self.assertIs(front.do_step(0), None)
        self.assertIs(front.undo_step(0), None)

    def test_by_chance(self):
        for name in ["sheet", "bumpy halves", "ring by chance", "tube by chance", "two forms", "labelled box by chance",
                     "three forms by chance", "spread sheet", "hole by chance"]:
            first, steps = HISTORIES[name]
            chance, on, done = random.Random(name), plain_steps.leans(steps), set()
            front = Front(first, steps)
            for _ in range(120):
                k = chance.randrange(-1, len(steps) + 1)
                self.one_deed(front, chance.choice(["do", "do", "undo"]), k, on, done)
                self.check_stands(front, first, steps, on, done)

    def one_deed(self, front, deed, k, on, done):
        method = front.do_step if deed == "do" else front.undo_step
        if not 0 <= k < len(on):
            self.check_refused(front, method, k, NoStep)
        elif deed == "do":
            if k in done or not set(on[k]) <= done:
                self.check_refused(front, method, k, NotYet)
            else:
                self.assertIs(method(k), None)
                done.add(k)
        elif k not in done or any(k in on[other] for other in done):
            self.check_refused(front, method, k, NotYet)
        else:
            self.assertIs(method(k), None)
            done.remove(k)

    def test_several_orders_come_to_the_same_skin(self):
        for name, (first, steps) in HISTORIES.items():
            last = mixed_skin(first, steps, list(range(len(steps))))
            orders = set()
            for seed in range(3):
                front, chance = Front(first, steps), random.Random(seed)
                order = []
                while front.can_do():
                    order.append(chance.choice(front.can_do()))
                    front.do_step(order[-1])
                orders.add(tuple(order))
                self.assertEqual(front.skin_now(), last, name)
                self.assertEqual(front.steps_in(), list(range(len(steps))))
                while front.can_undo():
                    front.undo_step(chance.choice(front.can_undo()))
                self.assertEqual(front.skin_now(), first, name)
                self.assertEqual(front.steps_in(), [])
            if len(steps) > 12:
                self.assertGreater(len(orders), 1, name)

    def test_each_skin_between_is_one_of_the_same_shape_and_lines(self):
        for name in ["bumpy sheet by chance", "labelled ring by chance", "double ring", "hole"]:
            first, steps = HISTORIES[name]
            shape, lines = plain.shape(first), plain.lines(first)
            front, chance = Front(first, steps), random.Random(name)
            while front.can_do():
                front.do_step(chance.choice(front.can_do()))
                if chance.random() < 0.3:
                    front.undo_step(chance.choice(front.can_undo()))
                if chance.random() < 0.3:
                    self.assertIs(plain.is_skin(front.skin_now()), True)
                    self.assertEqual(plain.shape(front.skin_now()), shape)
                    self.assertEqual(plain.lines(front.skin_now()), lines)

    def test_a_later_step_ahead_of_an_earlier_one(self):
        first = beside(sheet(2, 2), sheet(2, 2))
        steps = thinned_steps(first)
        other = [k for k, step in enumerate(steps) if step[0] >= 9]
        front = Front(first, steps)
        for k in other:
            front.do_step(k)
        self.assertEqual(front.steps_in(), other)
        for k in range(len(steps)):
            if k not in other:
                front.do_step(k)
        self.assertEqual(len(front.skin_now()[1]), 4)


class Twins(Cases):
    def test_stands_likewise_and_goes_apart(self):
        first, steps = HISTORIES["bumpy sheet"]
        front = Front(first, steps)
        for k in range(5):
            front.do_step(k)
        twin = front.make_twin()
        self.assertIs(type(twin), Front)
        self.assertEqual(answers(twin), answers(front))
        before = answers(front)
        twin.do_step(5)
        self.assertEqual(answers(front), before)
        self.assertNotEqual(answers(twin), before)
        after = answers(twin)
        front.undo_step(4)
        self.assertEqual(answers(twin), after)
        third = twin.make_twin()
        twin.undo_step(twin.can_undo()[-1])
        self.assertEqual(answers(third), after)
        while third.can_undo():
            third.undo_step(third.can_undo()[0])
        self.assertEqual(third.skin_now(), first)

    def test_two_beside_one_another(self):
        first, steps = HISTORIES["sheet"]
        one, other = Front(first, steps), Front(first, steps)
        one.do_step(0)
        self.assertEqual(other.steps_in(), [])
        self.assertEqual(other.skin_now(), first)


class Own(Cases):
    def test_the_list_handed_in_is_not_kept(self):
        first, steps = HISTORIES["tube"]
        for change in [list.clear, list.reverse, list.pop, lambda handed: handed.append(handed[0]),
                       lambda handed: handed.__setitem__(0, handed[1])]:
            handed = list(steps)
            front, model = Front(first, handed), Front(first, steps)
            front.do_step(0)
            model.do_step(0)
            change(handed)
            twin = front.make_twin()
            for there in [front, twin]:
                self.assertEqual(answers(there), answers(model))
            while model.can_do():
                k = model.can_do()[-1]
                for there in [model, front, twin]:
                    there.do_step(k)
                self.assertEqual(answers(front), answers(model))
            self.assertEqual(answers(twin), answers(model))

    def test_the_list_handed_in_is_not_changed(self):
        first, steps = HISTORIES["tube"]
        handed = list(steps)
        front = Front(first, handed)
        while front.can_do():
            front.do_step(front.can_do()[0])
        self.assertEqual(handed, steps)

    def test_what_is_told_is_the_askers_own(self):
        first, steps = HISTORIES["ring by chance"]
        front = Front(first, steps)
        for k in front.can_do():
            front.do_step(k)
        for ask in [front.steps_in, front.can_do, front.can_undo, front.skin_now]:
            check_own(self, ask)


if __name__ == "__main__":
    unittest.main()
