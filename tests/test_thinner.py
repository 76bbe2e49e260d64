"""[11] and [12]: a thinner, its steps done, taken back and done again."""

import random
import unittest

import plain
from forms import all_forms, beside, bumpy, double_tip, ring, sheet, spread, tip, triangle, tube
from model import Model
from things import check_own
from thinskin.drawing import bar_of, drawn_skin
from thinskin.errors import AtEnd, Barred
from thinskin.prices import planes_of, prices_of
from thinskin.thinner import Thinner


def answers(thinner):
    return (thinner.first_skin(), thinner.skin_now(), thinner.staying(), thinner.prices_now(), thinner.least_now(),
            thinner.steps_done(), thinner.steps_undone())


class Cases(unittest.TestCase):
    def check_same(self, thinner, model):
        self.assertEqual(thinner.first_skin(), model.skins[0])
        self.assertEqual(thinner.skin_now(), model.skins[model.at])
        self.assertEqual(thinner.staying(), model.stay)
        prices = model.prices()
        self.assertEqual(thinner.prices_now(), prices)
        self.assertEqual(thinner.least_now(), prices[0] if prices else None)
        self.assertEqual(thinner.steps_done(), model.steps[:model.at])
        self.assertEqual(thinner.steps_undone(), model.steps[model.at:])

    def check_at_end(self, deed):
        with self.assertRaises(AtEnd) as caught:
            deed()
        self.assertIs(type(caught.exception), AtEnd)

    def check_barred(self, thinner, b, a, word):
        before = answers(thinner)
        with self.assertRaises(Barred) as caught:
            thinner.draw_to(b, a)
        self.assertIs(type(caught.exception), Barred)
        self.assertEqual(caught.exception.word, word)
        self.assertEqual(thinner.bar_to(b, a), word)
        self.assertEqual(answers(thinner), before)


class Beginning(Cases):
    def test_all_forms(self):
        for name, skin in all_forms().items():
            for stay in [(), (0, 2)]:
                thinner = Thinner(skin, stay)
                self.assertEqual(thinner.first_skin(), skin)
                self.assertEqual(thinner.skin_now(), skin)
                self.assertEqual(thinner.staying(), stay)
                self.assertIs(type(thinner.staying()), tuple)
                self.assertEqual(thinner.steps_done(), [])
                self.assertEqual(thinner.steps_undone(), [])
                self.assertEqual(thinner.prices_now(), prices_of(skin, stay, planes_of(skin)))
                self.assertEqual(thinner.least_now(), (thinner.prices_now() + [None])[0])
                self.check_at_end(thinner.go_back)
                self.check_at_end(thinner.go_forth)

    def test_nothing_to_draw(self):
        for skin in [triangle(), tip()]:
            thinner = Thinner(skin, ())
            self.assertEqual(thinner.prices_now(), [])
            self.assertIs(thinner.least_now(), None)
            self.assertEqual(thinner.thin_to(0), [])
            self.assertEqual(thinner.skin_now(), skin)


class Deeds(Cases):
    def test_draw_and_back_and_forth(self):
        skin = sheet(2, 2)
        thinner = Thinner(skin, ())
        first = thinner.draw_to(4, 0)
        behind, step = drawn_skin(skin, (), 4, 0)
        self.assertEqual(first, step)
        self.assertEqual(thinner.skin_now(), behind)
        self.assertEqual(thinner.first_skin(), skin)
        second = thinner.draw_to(1, 2)
        self.assertEqual(thinner.steps_done(), [first, second])
        self.assertEqual(thinner.steps_undone(), [])
        self.check_at_end(thinner.go_forth)
        self.assertEqual(thinner.go_back(), second)
        self.assertEqual(thinner.skin_now(), behind)
        self.assertEqual(thinner.steps_done(), [first])
        self.assertEqual(thinner.steps_undone(), [second])
        self.assertEqual(thinner.go_back(), first)
        self.assertEqual(thinner.skin_now(), skin)
        self.assertEqual(thinner.steps_undone(), [first, second])
        self.check_at_end(thinner.go_back)
        self.assertEqual(thinner.steps_undone(), [first, second])
        self.assertEqual(thinner.go_forth(), first)
        self.assertEqual(thinner.steps_undone(), [second])
        self.assertEqual(thinner.go_forth(), second)
        self.check_at_end(thinner.go_forth)
        self.assertEqual(thinner.steps_done(), [first, second])

    def test_a_drawing_makes_steps_undone_empty(self):
        thinner = Thinner(sheet(3, 3), ())
        thinner.draw_to(5, 0)
        thinner.draw_to(10, 15)
        thinner.go_back()
        thinner.go_back()
        self.assertEqual(len(thinner.steps_undone()), 2)
        step = thinner.draw_to(6, 7)
        self.assertEqual(thinner.steps_undone(), [])
        self.assertEqual(thinner.steps_done(), [step])
        self.check_at_end(thinner.go_forth)
        self.assertEqual(thinner.go_back(), step)
        self.assertEqual(thinner.skin_now(), sheet(3, 3))

    def test_the_same_drawing_again_makes_it_empty_too(self):
        thinner = Thinner(sheet(2, 2), ())
        thinner.draw_to(4, 0)
        thinner.draw_to(1, 2)
        thinner.go_back()
        thinner.go_back()
        thinner.draw_to(4, 0)
        self.assertEqual(thinner.steps_undone(), [])

    def test_barred_changes_nothing(self):
        thinner = Thinner(sheet(3, 3), (6,))
        self.check_barred(thinner, 0, 15, "apart")
        self.check_barred(thinner, 6, 7, "stays")
        self.check_barred(thinner, 0, 1, "mark")
        thinner.draw_to(5, 0)
        thinner.draw_to(10, 15)
        thinner.go_back()
        self.check_barred(thinner, 5, 0, "apart")
        self.check_barred(thinner, 6, 7, "stays")
        self.check_barred(thinner, 1, 6, "mark")
        self.assertEqual(len(thinner.steps_undone()), 1)
        thinner = Thinner(tip(), ())
        self.check_barred(thinner, 0, 1, "shape")

    def test_bar_to_is_of_the_skin_now(self):
        thinner = Thinner(ring(5, 5), (3, 4))
        thinner.thin_to(35)
        skin = thinner.skin_now()
        for b in range(25):
            for a in range(25):
                if a != b:
                    self.assertEqual(thinner.bar_to(b, a), bar_of(skin, (3, 4), b, a))

    def test_planes_go_along(self):
        skin = sheet(3, 3, bumpy(5))
        thinner = Thinner(skin, ())
        first = planes_of(skin)
        at_first = thinner.prices_now()
        price, b, a = at_first[-1]
        thinner.draw_to(b, a)
        moved = [list(one) for one in first]
        moved[a] = first[a] + first[b]
        moved[b] = []
        behind = thinner.skin_now()
        self.assertEqual(thinner.prices_now(), prices_of(behind, (), moved))
        self.assertNotEqual(thinner.prices_now(), prices_of(behind, (), planes_of(behind)))
        self.assertNotEqual(thinner.prices_now(), prices_of(behind, (), first))
        thinner.go_back()
        self.assertEqual(thinner.prices_now(), at_first)
        thinner.go_forth()
        self.assertEqual(thinner.prices_now(), prices_of(behind, (), moved))

    def test_what_is_told_is_the_askers_own(self):
        for skin in [sheet(3, 3, bumpy(6)), ring(5, 4)]:
            thinner = Thinner(skin, (0,))
            thinner.thin_to(len(skin[1]) - 6)
            thinner.go_back()
            thinner.go_back()
            for ask in [thinner.prices_now, thinner.steps_done, thinner.steps_undone, thinner.least_now,
                        thinner.first_skin, thinner.skin_now, thinner.staying]:
                check_own(self, ask)
            before = answers(thinner)
            told = thinner.make_twin().thin_to(0)
            told.clear()
            self.assertEqual(answers(thinner), before)

    def test_deeds_by_chance(self):
        for name in ["sheet", "bumpy sheet", "tube", "labelled box", "two forms", "spread sheet", "hole", "ring"]:
            skin, chance = all_forms()[name], random.Random(name)
            stay = tuple(sorted(chance.sample(range(len(skin[0])), 2)))
            thinner, model = Thinner(skin, stay), Model(skin, stay)
            for _ in range(60):
                self.one_deed(thinner, model, chance)
                self.check_same(thinner, model)
            self.wholly_back(thinner, skin)

    def one_deed(self, thinner, model, chance):
        deed = chance.choice(["draw", "draw", "draw", "back", "back", "forth", "forth", "bar", "thin"])
        prices = model.prices()
        if deed == "draw" and prices:
            price, b, a = chance.choice(prices)
            self.assertEqual(thinner.draw_to(b, a), model.draw(b, a))
        elif deed == "back" and model.at:
            model.at -= 1
            self.assertEqual(thinner.go_back(), model.steps[model.at])
        elif deed == "forth" and model.at < len(model.steps):
            model.at += 1
            self.assertEqual(thinner.go_forth(), model.steps[model.at - 1])
        elif deed == "thin" and prices:
            told = thinner.thin_to(len(model.skins[model.at][1]) - 1)
            self.assertEqual(told, prices[:1])
            model.draw(*prices[0][1:])
        elif deed == "back":
            if not model.at:
                self.check_at_end(thinner.go_back)
        elif deed == "forth":
            self.check_at_end(thinner.go_forth)
        else:
            b, a = chance.sample(range(len(model.skins[0][0])), 2)
            word = plain.bar(model.skins[model.at], model.stay, b, a)
            self.assertEqual(thinner.bar_to(b, a), word)
            if word is not None:
                self.check_barred(thinner, b, a, word)

    def wholly_back(self, thinner, skin):
        while thinner.steps_done():
            thinner.go_back()
        self.assertEqual(thinner.skin_now(), skin)
        self.assertEqual(thinner.prices_now(), plain.prices(skin, thinner.staying(), plain.planes(skin)))


class Thinning(Cases):
    def test_by_the_model(self):
        for name in ["bumpy sheet", "halves", "double tip", "box", "tube", "holed ring", "two forms", "spread ring"]:
            skin = all_forms()[name]
            for most in [0, len(skin[1]) // 2, len(skin[1]) - 1]:
                thinner, model = Thinner(skin, ()), Model(skin, ())
                drawn = []
                while len(model.skins[-1][1]) > most and model.prices():
                    drawn.append(model.prices()[0])
                    model.draw(*drawn[-1][1:])
                told = thinner.thin_to(most)
                self.assertIs(type(told), list)
                self.assertEqual(told, drawn, name)
                self.check_same(thinner, model)

    def test_counts_that_are_reached(self):
        thinner = Thinner(sheet(4, 4), ())
        told = thinner.thin_to(20)
        self.assertIn(len(thinner.skin_now()[1]), (19, 20))
        self.assertEqual(len(thinner.steps_done()), len(told))
        self.assertEqual([step[:2] for step in thinner.steps_done()], [(b, a) for price, b, a in told])

    def test_counts_that_are_not_reached(self):
        thinner = Thinner(sheet(4, 4), ())
        thinner.thin_to(0)
        self.assertEqual(len(thinner.skin_now()[1]), 2)
        self.assertIs(thinner.least_now(), None)
        self.assertEqual(thinner.thin_to(0), [])
        self.assertEqual(thinner.thin_to(1), [])
        thinner = Thinner(double_tip(7), ())
        thinner.thin_to(3)
        self.assertEqual(len(thinner.skin_now()[1]), 4)

    def test_counts_that_ask_for_nothing(self):
        for most in [32, 33, 1000]:
            thinner = Thinner(sheet(4, 4), ())
            self.assertEqual(thinner.thin_to(most), [])
            self.assertEqual(thinner.skin_now(), sheet(4, 4))
            self.assertEqual(thinner.steps_done(), [])

    def test_where_it_draws_none_steps_undone_stay(self):
        thinner = Thinner(sheet(3, 3), ())
        thinner.thin_to(10)
        undone = [thinner.go_back(), thinner.go_back()][::-1]
        many = len(thinner.skin_now()[1])
        self.assertEqual(thinner.thin_to(many), [])
        self.assertEqual(thinner.thin_to(many + 5), [])
        self.assertEqual(thinner.steps_undone(), undone)
        self.assertEqual(len(thinner.thin_to(many - 1)), 1)
        self.assertEqual(thinner.steps_undone(), [])

    def test_corners_that_stay(self):
        skin = sheet(4, 4)
        thinner = Thinner(skin, (6, 12, 13))
        thinner.thin_to(0)
        self.assertLessEqual({6, 12, 13}, set(plain.corners_of(thinner.skin_now())))
        every = Thinner(skin, tuple(range(25)))
        self.assertEqual(every.prices_now(), [])
        self.assertEqual(every.thin_to(0), [])

    def test_flat_ones_thin_to_their_lines(self):
        thinner = Thinner(sheet(6, 6, label=lambda x, y: int(x >= 3)), ())
        told = thinner.thin_to(0)
        self.assertEqual({price for price, b, a in told}, {0})
        self.assertEqual(len(thinner.skin_now()[1]), 4)

    def test_all_forms_come_back(self):
        for name, skin in all_forms().items():
            thinner = Thinner(skin, ())
            thinner.thin_to(0)
            shape, lines = plain.shape(skin), plain.lines(skin)
            self.assertEqual(plain.shape(thinner.skin_now()), shape, name)
            self.assertEqual(plain.lines(thinner.skin_now()), lines, name)
            thinnest, done = thinner.skin_now(), thinner.steps_done()
            while thinner.steps_done():
                thinner.go_back()
            self.assertEqual(thinner.skin_now(), skin, name)
            self.assertEqual(thinner.steps_undone(), done, name)
            while thinner.steps_undone():
                thinner.go_forth()
            self.assertEqual(thinner.skin_now(), thinnest, name)
            self.assertEqual(thinner.steps_done(), done, name)

    def test_the_largest(self):
        skin = ring(12, 10)
        self.assertEqual((len(skin[0]), len(skin[1])), (120, 240))
        thinner = Thinner(skin, ())
        thinner.thin_to(100)
        self.assertIn(len(thinner.skin_now()[1]), (99, 100))
        self.assertEqual(plain.shape(thinner.skin_now()), (1, 0, 1))


class Twins(Cases):
    def test_stands_likewise(self):
        for skin in [sheet(3, 3, bumpy(8)), tube(5, 3), beside(tip(), sheet(2, 2)), spread(sheet(2, 2))]:
            thinner = Thinner(skin, (1,))
            thinner.thin_to(len(skin[1]) - 5)
            thinner.go_back()
            twin = thinner.make_twin()
            self.assertIs(type(twin), Thinner)
            self.assertEqual(answers(twin), answers(thinner))
            self.assertEqual(answers(twin.make_twin()), answers(thinner))

    def test_know_nothing_of_each_other(self):
        deeds = [
            lambda thinner: thinner.thin_to(0),
            lambda thinner: thinner.go_back(),
            lambda thinner: thinner.go_forth(),
            lambda thinner: thinner.draw_to(*thinner.least_now()[1:]),
            lambda thinner: [thinner.go_back(), thinner.go_back(), thinner.draw_to(*thinner.least_now()[1:])],
        ]
        for deed in deeds:
            thinner = Thinner(sheet(4, 4, bumpy(9)), (3,))
            thinner.thin_to(24)
            thinner.go_back()
            thinner.go_back()
            twin = thinner.make_twin()
            before = answers(thinner)
            deed(twin)
            self.assertEqual(answers(thinner), before)
            self.assertNotEqual(answers(twin), before)
            deed(thinner)
            self.assertEqual(answers(twin), answers(thinner))

    def test_a_twin_goes_back_to_the_first_skin(self):
        skin = ring(5, 5)
        thinner = Thinner(skin, ())
        thinner.thin_to(40)
        twin = thinner.make_twin()
        thinner.thin_to(0)
        while twin.steps_done():
            twin.go_back()
        self.assertEqual(twin.skin_now(), skin)
        self.assertEqual(twin.prices_now(), Thinner(skin, ()).prices_now())

    def test_two_beside_one_another(self):
        skin = sheet(3, 3, bumpy(10))
        one, other = Thinner(skin, ()), Thinner(skin, ())
        one.thin_to(12)
        self.assertEqual(answers(other), answers(Thinner(skin, ())))
        other.thin_to(12)
        self.assertEqual(answers(one), answers(other))


if __name__ == "__main__":
    unittest.main()
