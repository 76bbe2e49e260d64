"""[20]: a desk, its answers and its refusals."""

import random
import unittest

from forms import all_forms, beside, bumpy, ring, sheet, spread, tip, triangle
from plain_desk import Desk
from test_texts import WRONG_NUMBERS
from things import check_own
from thinskin.desk import answers_to
from thinskin.errors import BadRow, NoSkin
from thinskin.texts import skin_text

SHEET = skin_text(sheet(2, 2))
# The number of its stay row: nine corners and eight triangles stand ahead.
AT = 17


class Cases(unittest.TestCase):
    def check(self, text, answers):
        told = answers_to(text)
        self.assertIs(type(told), list)
        self.assertEqual(told, answers)

    def check_bad(self, text, row):
        with self.assertRaises(BadRow) as caught:
            answers_to(text)
        self.assertIs(type(caught.exception), BadRow)
        self.assertEqual(caught.exception.row, row)
        self.assertIs(type(caught.exception.row), int)

    def check_no_skin(self, text):
        with self.assertRaises(NoSkin) as caught:
            answers_to(text)
        self.assertIs(type(caught.exception), NoSkin)

    def ask(self, rows, answers, stay="stay"):
        self.check("\n".join([SHEET, stay] + rows), answers)


class Answers(Cases):
    def test_nothing_behind(self):
        self.check(SHEET + "\nstay", [])
        self.check(SHEET + "\nstay 0 4 8", [])

    def test_draw(self):
        self.ask(["draw 4 0"], ["4 0"])
        self.ask(["draw 4 0", "draw 1 2", "draw 1 0"], ["4 0", "1 2", "refused Barred"])
        self.ask(["draw 0 8"], ["refused Barred"])
        self.ask(["draw 4 0", "draw 3 0"], ["refused Barred", "3 0"], "stay 4")

    def test_back_and_forth(self):
        self.ask(["back", "forth"], ["refused AtEnd", "refused AtEnd"])
        self.ask(["draw 4 0", "draw 1 2", "back", "back", "back", "forth", "forth", "forth"],
                 ["4 0", "1 2", "1 2", "4 0", "refused AtEnd", "4 0", "1 2", "refused AtEnd"])

    def test_thin(self):
        self.ask(["thin 8"], ["-"])
        self.ask(["thin 999999"], ["-"])
        self.ask(["thin 7"], ["0 1 0"])
        self.ask(["thin 4", "thin 4", "thin 0"], ["0 1 0; 0 3 0; 0 4 0", "-", "0 5 2; 0 7 6"])
        self.ask(["thin 0"], ["0 1 0; 0 3 0; 0 4 0; 0 5 2; 0 7 6"], "stay")
        self.ask(["thin 0"], ["-"], "stay 0 1 2 3 4 5 6 7 8")

    def test_prices(self):
        text = skin_text(sheet(2, 2, lambda x, y: 3 * (x == 1 == y)))
        desk = Desk(sheet(2, 2, lambda x, y: 3 * (x == 1 == y)), ())
        self.check(text + "\nstay\nleast\nthin 0", [desk.answer("least"), desk.answer("thin 0")])
        self.assertNotEqual(Desk(sheet(2, 2, lambda x, y: 3 * (x == 1 == y)), ()).answer("least")[:2], "0 ")

    def test_least(self):
        self.ask(["least", "draw 1 0", "least"], ["0 1 0", "1 0", "0 3 0"])
        self.check(skin_text(tip()) + "\nstay\nleast", ["-"])

    def test_bar(self):
        self.ask(["bar 4 0", "bar 0 8", "bar 0 1", "bar 1 4", "bar 1 0"], ["-", "apart", "mark", "mark", "-"])
        self.ask(["bar 4 0", "bar 4 2"], ["stays", "apart"], "stay 4")
        self.check(skin_text(tip()) + "\nstay\nbar 0 1", ["shape"])

    def test_steps_and_undone(self):
        self.ask(["steps", "undone"], ["-", "-"])
        self.ask(["draw 4 0", "draw 1 2", "steps", "undone", "back", "steps", "undone", "back", "steps", "undone"],
                 ["4 0", "1 2", "4 0; 1 2", "-", "1 2", "4 0", "1 2", "4 0", "-", "4 0; 1 2"])

    def test_a_drawing_makes_undone_empty(self):
        self.ask(["draw 4 0", "back", "draw 0 8", "undone", "thin 8", "undone", "draw 1 0", "undone"],
                 ["4 0", "4 0", "refused Barred", "4 0", "-", "4 0", "1 0", "-"])

    def test_shape(self):
        self.ask(["shape", "draw 4 0", "shape"], ["1 1 0", "4 0", "1 1 0"])
        self.check(skin_text(ring(5, 4)) + "\nstay\nshape", ["1 0 1"])
        self.check(skin_text(beside(tip(), triangle())) + "\nstay\nshape", ["2 1 0"])

    def test_marks(self):
        self.check(skin_text(tip()) + "\nstay\nmarks", ["-"])
        self.check(skin_text(triangle()) + "\nstay\nmarks", ["0 1; 0 2; 1 2"])
        self.ask(["thin 0", "marks"], ["0 1 0; 0 3 0; 0 4 0; 0 5 2; 0 7 6", "0 2; 0 6; 2 8; 6 8"])

    def test_skin(self):
        self.check(skin_text(triangle()) + "\nstay\nskin", ["0 1 2 0"])
        self.ask(["draw 4 0", "skin"], ["4 0", "0 1 5 0; 0 5 8 0; 0 7 3 0; 0 8 7 0; 1 2 5 0; 3 7 6 0"])

    def test_far(self):
        self.ask(["far 0", "far 1"], ["0/1 0/1", "0/1 0/1"])
        self.ask(["draw 4 0", "far 0", "far 1"], ["4 0", "0/1 100/1", "0/1 25/1"])

    def test_view(self):
        self.ask(["view 0 0 0 0 20 20 0"], ["8"])
        self.ask(["draw 4 0", "view 0 0 0 0 20 20 0", "view 0 -9 -9 -9 -1 -1 -1", "view 1 0 0 0 20 20 0",
                  "view 999999 0 0 0 20 20 0", "view 0 0 0 0 0 0 0", "view 0 -1000 -1000 -1000 1000 1000 1000"],
                 ["4 0", "8", "6", "6", "6", "8", "8"])
        self.ask(["draw 4 0", "back", "view 0 -9 -9 -9 -1 -1 -1"], ["4 0", "4 0", "8"])

    def test_corners_in_no_triangle(self):
        text = skin_text(spread(sheet(2, 2)))
        self.check(text + "\nstay 0 18\nbar 0 1\ndraw 0 1\nbar 9 1\ndraw 9 1",
                   ["apart", "refused Barred", "-", "9 1"])

    def test_told_over_again(self):
        names = ["triangle", "sheet", "bumpy sheet", "halves", "labelled box", "tube", "holed ring", "two forms",
                 "spread sheet", "two colours by chance", "double tip", "tip", "hole"]
        for name in names:
            skin, chance = all_forms()[name], random.Random(name)
            stay = tuple(sorted(chance.sample(range(len(skin[0])), chance.randint(0, 2))))
            desk = Desk(skin, stay)
            rows = [self.row_by_chance(chance, skin) for _ in range(45)]
            answers = [desk.answer(row) for row in rows]
            head = " ".join(["stay"] + [str(corner) for corner in stay])
            self.check("\n".join([skin_text(skin), head] + rows), answers)

    def row_by_chance(self, chance, skin):
        many = len(skin[1])
        words = ["draw", "draw", "bar", "back", "back", "forth", "forth", "thin", "least", "steps", "undone", "shape",
                 "marks", "skin", "view", "view"] + ["far"] * (many <= 16)
        word = chance.choice(words)
        if word in ("draw", "bar"):
            pairs = [pair for trio in skin[1] for pair in [trio[:2], trio[1:3], (trio[2], trio[0])]]
            pair = chance.choice(pairs + [tuple(chance.sample(range(len(skin[0])), 2))] * 9)
            return "{} {} {}".format(word, *pair)
        if word == "thin":
            return f"thin {chance.choice([many - 1, max(many - 3, 0), many // 2, 0, many])}"
        if word == "far":
            return f"far {chance.choice([0, 0, 1])}"
        if word == "view":
            one, other = chance.choice(skin[0]), chance.choice(skin[0])
            low, high = [tuple(pick(x, y) for x, y in zip(one, other)) for pick in (min, max)]
            return " ".join(str(number) for number in ("view", chance.randint(0, 6)) + low + high)
        return word

    def test_many_rows(self):
        self.ask(["steps"] * 200, ["-"] * 200)
        self.ask(["draw 4 0", "back"] * 100, ["4 0", "4 0"] * 100)
        # Somewhat beyond the bound there is no refusal.
        self.ask(["shape"] * 210, ["1 1 0"] * 210)

    def test_largest_skin(self):
        text = skin_text(ring(12, 10))
        told = answers_to(text + "\nstay\nthin 200\nshape\nsteps\nview 0 -1000 -1000 -1000 1000 1000 1000")
        self.assertEqual(len(told[0].split("; ")), 20)
        self.assertEqual(told[1], "1 0 1")
        self.assertEqual([row.split(" ", 1)[1] for row in told[0].split("; ")], told[2].split("; "))
        self.assertEqual(told[3], "240")


class NoStay(Cases):
    def test_no_row_whose_first_word_is_stay(self):
        self.check_bad("", 1)
        self.check_bad("\n", 2)
        self.check_bad(SHEET, 17)
        self.check_bad(SHEET + "\n", 18)
        self.check_bad(SHEET + "\nsteps", 18)
        for row in [" stay", "stays", "Stay", "stay\t1", "stay,1", "to stay", "  stay 1", "stay1", "-stay", "sta y"]:
            self.check_bad(SHEET + "\n" + row + "\nsteps", 19)

    def test_ahead_of_all_other_refusals(self):
        self.check_bad("nothing\n\ncorner", 3)
        self.check_bad("triangle 0 1 2 0", 1)
        self.check_bad(SHEET.replace("corner 0 0 0", "corner 0 0"), 17)


class Heads(Cases):
    def test_as_read_skin(self):
        rows = SHEET.split("\n")
        for at in range(len(rows)):
            for wrong in ["", rows[at] + " ", rows[at].replace(" ", "  ", 1), "steps", rows[at] + " 0"]:
                text = "\n".join(rows[:at] + [wrong] + rows[at + 1:])
                self.check_bad(text + "\nstay\nsteps", at)
                self.check_bad(text + "\nstay 3 2\nnothing\n", at)
        self.check_bad(SHEET + "\ncorner 0 0 0\nstay", 17)
        self.check_bad(SHEET + "\n\nstay", 17)
        self.check_bad("stay", 0)
        self.check_bad("stay\n" + SHEET, 0)
        self.check_bad("stay 5 4\nnothing", 0)
        self.check_bad("\nstay", 0)

    def test_no_skin(self):
        for text in ["corner 0 0 0", "triangle 0 1 2 0", SHEET + "\ntriangle 0 1 2 0",
                     SHEET.replace("corner 0 0 0", "corner 9999 0 0"), "\n".join(["corner 0 0 0"] * 130)]:
            self.check_no_skin(text + "\nstay")
            self.check_no_skin(text + "\nstay 2 1\nnothing\n\n")
            self.check_no_skin(text + "\nstay 200\nsteps")

    def test_a_fault_ahead_of_no_skin(self):
        self.check_bad("triangle 0 1 2 0\ncorner 0 0 0\nstay", 1)

    def test_the_first_stay_row_counts(self):
        self.check_bad(SHEET + "\nstay\nstay", 18)
        self.check_bad(SHEET + "\nstay 1\nsteps\nstay 2\nsteps", 19)
        self.check_no_skin("corner 0 0 0\nstay\n" + SHEET + "\nstay")


class Rows(Cases):
    def test_stay_rows(self):
        for row in ["stay ", "stay  1", "stay 1 ", "stay 1  2", "stay 2 1", "stay 1 1", "stay 0 2 1", "stay 9", "stay -1",
                    "stay 0 9", "stay a", "stay 01", "stay -0", "stay +1", "stay 1,2", "stay 999999", "stay 1000000",
                    "stay 0 1 2 3 4 5 6 7 8 9", "stay stay", "stay 0 1 1"]:
            self.check_bad(SHEET + "\n" + row, AT)
            self.check_bad(SHEET + "\n" + row + "\nnothing", AT)
        for row in ["stay 0", "stay 8", "stay 0 8", "stay 0 1 2 3 4 5 6 7 8"]:
            self.check(SHEET + "\n" + row, [])

    def spoil(self, row):
        """Behind the stay row, behind rows that would be answered, and ahead of others."""
        self.check_bad(f"{SHEET}\nstay\n{row}", AT + 1)
        self.check_bad(f"{SHEET}\nstay 4\ndraw 1 0\nthin 0\n{row}\nsteps", AT + 3)
        self.check_bad(f"{SHEET}\nstay\nback\nback\n{row}\n\nnothing", AT + 3)

    def test_words(self):
        for row in ["", " ", "nothing", "Draw 4 0", "drawn 4 0", "corner 0 0 0", "triangle 0 1 2 0", "4 0", "stay", "stay 1",
                    "-", "refused", "mark", "on", "prices", "twin", " steps", "steps ", "steps  ", "go back"]:
            self.spoil(row)

    def test_words_with_nothing_behind(self):
        for word in ["back", "forth", "least", "steps", "undone", "shape", "marks", "skin"]:
            for behind in [" ", " 0", " 1", " 4 0", "  ", " a", "s"]:
                if word + behind not in ("marks", "skins"):
                    self.spoil(word + behind)

    def test_words_with_two_corners(self):
        for word in ["draw", "bar"]:
            for behind in ["", " ", " 4", " 4 ", " 4 0 ", " 4  0", "  4 0", " 4 0 1", " 4 4", " 0 0", " 9 4", " 4 9",
                           " -1 4", " 4 -1", " -4 0", " 4,0", " 999999 0"]:
                self.spoil(word + behind)
            for wrong in WRONG_NUMBERS:
                self.spoil(f"{word} {wrong} 0")
                self.spoil(f"{word} 4 {wrong}")

    def test_thin_and_far(self):
        for behind in ["", " ", " -1", " 0 0", "  0", " 0 ", " 1000000", " -999999"] + [" " + x for x in WRONG_NUMBERS]:
            self.spoil("thin" + behind)
            self.spoil("far" + behind)
        for behind in [" 2", " 3", " 10", " 999999"]:
            self.spoil("far" + behind)

    def test_view(self):
        right = ["0", "-5", "-6", "-7", "5", "6", "7"]
        self.check(f"{SHEET}\nstay\nview {' '.join(right)}", ["8"])
        for at in range(7):
            for wrong in WRONG_NUMBERS + ["1001", "-1001", "999999", "-999999"]:
                if at > 0 or wrong not in ("1001", "999999"):
                    self.spoil("view " + " ".join(right[:at] + [wrong] + right[at + 1:]))
        for many in range(7):
            self.spoil(" ".join(["view"] + right[:many]))
        self.spoil("view " + " ".join(right + ["0"]))
        self.spoil("view " + " ".join(right) + " ")
        self.spoil("view  " + " ".join(right))
        self.spoil("view -1 0 0 0 1 1 1")

    def test_boxes_that_are_none(self):
        for low, high in [("1 0 0", "0 9 9"), ("0 1 0", "9 0 9"), ("0 0 1", "9 9 0"), ("5 5 5", "4 4 4"),
                          ("-1001 0 0", "0 0 0"), ("0 0 0", "0 0 1001")]:
            self.spoil(f"view 0 {low} {high}")
        for low, high in [("0 0 0", "0 0 0"), ("-1000 -1000 -1000", "1000 1000 1000"), ("3 3 3", "3 3 3")]:
            self.check(f"{SHEET}\nstay\nview 0 {low} {high}", ["8"])

    def test_a_row_at_fault_behind_refused_ones(self):
        self.check_bad(f"{SHEET}\nstay\ndraw 0 8\nback\nforth\n", AT + 4)
        self.check_bad(f"{SHEET}\nstay\n", AT + 1)
        self.check_bad(f"{SHEET}\nstay\n\nsteps", AT + 1)

    def test_numbers_that_are_let_whatever_they_are(self):
        self.check(f"{SHEET}\nstay\nthin 999999\nview 999999 0 0 0 0 0 0", ["-", "8"])


class Own(Cases):
    def test_what_is_told_is_the_askers_own(self):
        text = SHEET + "\nstay\ndraw 4 0\nskin\nback\nfar 1"
        check_own(self, lambda: answers_to(text))
        check_own(self, lambda: answers_to(SHEET + "\nstay"))

    def test_each_text_begins_anew(self):
        text = SHEET + "\nstay\nsteps\ndraw 4 0\nsteps"
        for _ in range(3):
            self.check(text, ["-", "4 0", "4 0"])

    def test_kinds_of_answers(self):
        told = answers_to(skin_text(sheet(3, 3, bumpy(1))) + "\nstay\nthin 9\nskin\nshape\nback\nforth\nforth\nleast")
        self.assertEqual({type(one) for one in told}, {str})


if __name__ == "__main__":
    unittest.main()
