"""[19]: skins and steps as texts, and read from them."""

import itertools
import random
import unittest

import plain
from forms import all_forms, beside, bumpy, make_skin, ring, sheet, spread, tip, triangle
from histories import all_histories, steps_by_chance, thinned_steps
from things import check_own
from thinskin.errors import BadRow, NoSkin
from thinskin.texts import read_skin, read_steps, skin_text, steps_text
from thinskin.thinner import Thinner

TRIANGLE = "corner 0 0 0\ncorner 4 0 0\ncorner 0 4 0\ntriangle 0 1 2 0"
RIGHT_NUMBERS = ["0", "1", "9", "10", "-1", "-9", "-10", "100000", "999999", "-999999", "-100000", "1000", "-1000"]
WRONG_NUMBERS = ["", "-", "--1", "-0", "00", "01", "-01", "007", "+1", "+0", "1000000", "-1000000", "0000001", "1.", "1.0",
                 "a", "1a", "a1", "1-", "1-1", "0x1", "1_0", "1,0", "(1)", "'1'", "1e3", "~", "!", "one", "-a", "0-",
                 "corner", "triangle", "1;", "1/1"]


def spoiled_rows(row):
    """The row written wrongly in each way that the document names, and in some others."""
    words = row.split(" ")
    yield ""
    yield " "
    yield row + " "
    yield " " + row
    yield row + " 0"
    yield row + " a"
    yield " ".join(words[:-1])
    yield words[0]
    yield " ".join(words[1:])
    yield row.upper()
    yield row.capitalize()
    yield words[0] + "s " + " ".join(words[1:])
    yield "stay " + " ".join(words[1:])
    for at in range(1, len(words)):
        yield " ".join(words[:at]) + "  " + " ".join(words[at:])
        for wrong in WRONG_NUMBERS:
            yield " ".join(words[:at] + [wrong] + words[at + 1:])


class Cases(unittest.TestCase):
    def check_row(self, ask, row):
        with self.assertRaises(BadRow) as caught:
            ask()
        self.assertIs(type(caught.exception), BadRow)
        self.assertEqual(caught.exception.row, row)
        self.assertIs(type(caught.exception.row), int)

    def check_bad(self, text, row):
        self.check_row(lambda: read_skin(text), row)

    def check_no_skin(self, text):
        with self.assertRaises(NoSkin) as caught:
            read_skin(text)
        self.assertIs(type(caught.exception), NoSkin)


class Skins(Cases):
    def test_by_hand(self):
        self.assertEqual(skin_text(triangle()), TRIANGLE)
        self.assertEqual(read_skin(TRIANGLE), triangle())
        skin = (((-1000, 5, 1000), (7, -12, 0), (100, 0, -1)), ((0, 2, 1, 9),))
        text = "corner -1000 5 1000\ncorner 7 -12 0\ncorner 100 0 -1\ntriangle 0 2 1 9"
        self.assertEqual(skin_text(skin), text)
        self.assertEqual(read_skin(text), skin)

    def test_there_and_back(self):
        forms = dict(all_forms(), largest=ring(12, 10), wide=spread(sheet(5, 5), 2))
        for name, skin in forms.items():
            text = skin_text(skin)
            self.assertIs(type(text), str)
            self.assertEqual(len(text.split("\n")), len(skin[0]) + len(skin[1]))
            told = read_skin(text)
            self.assertEqual(told, skin, name)
            self.assertEqual(repr(told), repr(skin), name)
            self.assertEqual(skin_text(told), text)

    def test_a_skin_of_more_than_may_be_read(self):
        skin = sheet(12, 12)
        self.assertEqual(len(skin_text(skin).split("\n")), 169 + 288)

    def test_the_empty_text(self):
        self.check_bad("", 0)

    def test_empty_rows(self):
        self.check_bad(TRIANGLE + "\n", 4)
        self.check_bad("\n" + TRIANGLE, 0)
        self.check_bad(TRIANGLE.replace("\n", "\n\n", 1), 1)
        self.check_bad("\n\n\n", 0)
        self.check_bad("corner 0 0 0\n\n", 1)

    def test_each_row_written_wrongly(self):
        rows = TRIANGLE.split("\n")
        for at in range(len(rows)):
            for spoiled in spoiled_rows(rows[at]):
                self.check_bad("\n".join(rows[:at] + [spoiled] + rows[at + 1:]), at)

    def test_the_first_of_several(self):
        rows = TRIANGLE.split("\n")
        for one, other in itertools.combinations(range(4), 2):
            spoiled = list(rows)
            spoiled[one] += " "
            spoiled[other] = ""
            self.check_bad("\n".join(spoiled), one)

    def test_a_corner_behind_a_triangle(self):
        self.check_bad(TRIANGLE + "\ncorner 0 0 0", 4)
        self.check_bad("triangle 0 1 2 0\n" + TRIANGLE, 1)
        self.check_bad("corner 0 0 0\ntriangle 0 1 2 0\ntriangle 0 1 2 0\ncorner 1 1 1\ncorner 1 1", 3)
        self.check_bad("triangle 0 1 2 0\ncorner 1 1 1\n", 1)

    def test_numbers(self):
        for number in RIGHT_NUMBERS:
            for row in [f"corner {number} 0 0", f"corner 0 {number} 0", f"corner 0 0 {number}"]:
                self.check_no_skin(row)
            for at in range(4):
                words = ["0", "1", "2", "0"]
                words[at] = number
                text = TRIANGLE.replace("triangle 0 1 2 0", "triangle " + " ".join(words))
                if plain.is_skin((triangle()[0], (tuple(int(word) for word in words),))):
                    self.assertEqual(read_skin(text)[1], (tuple(int(word) for word in words),))
                else:
                    self.check_no_skin(text)
        for number in WRONG_NUMBERS:
            self.check_bad(f"corner {number} 0 0", 0)
            self.check_bad(TRIANGLE + f"\ntriangle 0 1 2 {number}", 4)

    def test_rightly_written_but_no_skin(self):
        for text in ["corner 0 0 0", "triangle 0 1 2 0", "corner 0 0 0\ncorner 4 0 0\ncorner 0 4 0",
                     TRIANGLE.replace("corner 4 0 0", "corner 1001 0 0"), TRIANGLE.replace("0 1 2 0", "0 1 3 0"),
                     TRIANGLE.replace("0 1 2 0", "0 1 -2 0"), TRIANGLE.replace("0 1 2 0", "0 1 2 10"),
                     TRIANGLE.replace("0 1 2 0", "0 1 2 -1"), TRIANGLE.replace("0 1 2 0", "1 2 0 0"),
                     TRIANGLE.replace("0 1 2 0", "0 1 1 0"), TRIANGLE.replace("corner 4 0 0", "corner 0 8 0"),
                     TRIANGLE + "\ntriangle 0 1 2 0", TRIANGLE + "\ntriangle 0 2 1 0", TRIANGLE + "\ntriangle 0 1 2 1"]:
            self.check_no_skin(text)

    def test_rows_that_do_not_rise(self):
        rows = skin_text(sheet(1, 1)).split("\n")
        self.check_no_skin("\n".join(rows[:-2] + [rows[-1], rows[-2]]))
        self.check_no_skin("\n".join(rows + rows[-1:]))
        # Corners in another order are another skin.
        moved = [rows[1], rows[0]] + rows[2:]
        self.assertEqual(read_skin("\n".join(moved))[0], ((10, 0, 0), (0, 0, 0), (0, 10, 0), (10, 10, 0)))

    def test_both_at_once(self):
        self.check_bad("triangle 0 1 2 0\ncorner", 1)
        self.check_bad(TRIANGLE.replace("corner 4 0 0", "corner 5000 0 0") + "\n", 4)
        self.check_bad("\n".join(["corner 0 0 0"] * 130 + ["triangle 0 1 2"]), 130)

    def test_more_than_120_corners(self):
        corners, triangles = triangle()
        for many in [119, 120, 121, 122, 300]:
            skin = (corners + ((5, 5, 5),) * (many - 3), triangles)
            if many <= 120:
                self.assertEqual(read_skin(skin_text(skin)), skin)
            else:
                self.assertIs(plain.is_skin(skin), True)
                self.check_no_skin(skin_text(skin))

    def test_more_than_240_triangles(self):
        skin = beside(ring(9, 12), tip())
        self.assertEqual((len(skin[0]), len(skin[1])), (112, 220))
        self.assertEqual(read_skin(skin_text(skin)), skin)
        # 240 of 120 corners are let; of a closed skin with two handles more come from as few.
        largest = ring(12, 10)
        self.assertEqual((len(largest[0]), len(largest[1])), (120, 240))
        self.assertEqual(read_skin(skin_text(largest)), largest)
        more = joined_rings()
        self.assertEqual((len(more[0]) <= 120, len(more[1])), (True, 242))
        self.assertIs(plain.is_skin(more), True)
        self.check_no_skin(skin_text(more))
        more = (more[0], more[1][1:])
        self.assertIs(plain.is_skin(more), True)
        self.check_no_skin(skin_text(more))
        fewer = [(more[0], more[1][:at] + more[1][at + 1:]) for at in range(241)]
        just = next(skin for skin in fewer if plain.is_skin(skin))
        self.assertEqual(len(just[1]), 240)
        self.assertEqual(read_skin(skin_text(just)), just)


def joined_rings():
    """Two rings, each less a triangle, grown together there: 242 triangles of 119 corners."""
    one, other = ring(11, 6), ring(8, 7)
    a, b, c, label = one[1][0]
    x, y, z, label = other[1][0]
    # The arrows that are left alone there must meet the other way round.
    onto = {x: a, y: c, z: b}
    left = [k for k in range(len(other[0])) if k not in onto]
    onto.update({k: len(one[0]) + at for at, k in enumerate(left)})
    rest = [tuple(onto[k] for k in trio[:3]) + trio[3:] for trio in other[1][1:]]
    return make_skin(one[0] + tuple(other[0][k] for k in left), list(one[1][1:]) + rest)


class Steps(Cases):
    def check_steps(self, first, stay, text, row):
        self.check_row(lambda: read_steps(first, stay, text), row)

    def test_by_hand(self):
        skin = sheet(2, 2)
        thinner = Thinner(skin, ())
        steps = [thinner.draw_to(4, 0), thinner.draw_to(1, 2)]
        self.assertEqual(steps_text(steps), "4 0\n1 2")
        self.assertEqual(read_steps(skin, (), "4 0\n1 2"), steps)
        self.assertEqual(steps_text(steps[:1]), "4 0")
        self.assertEqual(read_steps(skin, (), "4 0"), steps[:1])

    def test_none(self):
        self.assertEqual(steps_text([]), "")
        self.assertEqual(read_steps(sheet(2, 2), (), ""), [])
        self.assertEqual(read_steps(tip(), (0, 1), ""), [])

    def test_there_and_back(self):
        for name, (first, steps) in all_histories().items():
            text = steps_text(steps)
            self.assertIs(type(text), str)
            self.assertEqual(text.split("\n"), [f"{b} {a}" for b, a, star in steps] or [""])
            told = read_steps(first, (), text)
            self.assertIs(type(told), list)
            self.assertEqual(told, steps, name)

    def test_with_corners_that_stay(self):
        skin = sheet(4, 4, bumpy(3))
        stay = (6, 12, 17)
        steps = steps_by_chance(skin, 3, stay)
        text = steps_text(steps)
        self.assertEqual(read_steps(skin, stay, text), steps)
        for at in [0, 3, len(steps) - 1]:
            more = tuple(sorted(stay + (steps[at][0],)))
            self.check_steps(skin, more, text, at)

    def test_barred_rows(self):
        skin = sheet(2, 2)
        for row, stay in [("0 8", ()), ("4 0", (4,)), ("0 1", ()), ("1 4", ())]:
            self.check_steps(skin, stay, row, 0)
        self.check_steps(tip(), (), "0 1", 0)
        self.check_steps(skin, (), "4 0\n4 0", 1)
        self.check_steps(skin, (), "4 0\n1 2\n1 0", 2)
        self.check_steps(skin, (), "4 0\n0 4\n1 2", 1)
        self.check_steps(skin, (), "4 0\n0 4\n", 1)
        self.check_steps(skin, (), "0 4\n\n4 0", 0)

    def test_corners_that_the_table_has_not(self):
        skin = sheet(2, 2)
        for row in ["9 0", "4 9", "-1 4", "4 -1", "100 4", "4 999999", "-4 0", "4 -9"]:
            self.check_steps(skin, (), row, 0)
            self.check_steps(skin, (), "4 0\n" + row, 1)

    def test_corners_in_no_triangle(self):
        skin = spread(sheet(2, 2))
        for row in ["0 1", "1 0", "0 2", "18 9"]:
            self.check_steps(skin, (), row, 0)
        self.assertEqual(read_steps(skin, (), "9 1"), [(9, 1, plain.star(skin, 9))])

    def test_alike_ones(self):
        self.check_steps(sheet(2, 2), (), "4 4", 0)
        self.check_steps(sheet(2, 2), (), "4 0\n2 2", 1)

    def test_rows_written_wrongly(self):
        skin = sheet(2, 2)
        for wrong in ["", " ", "4", "4 0 ", " 4 0", "4  0", "4 0 1", "4 0 0", "4,0", "draw 4 0", "04 0", "4 00", "4 -0",
                      "+4 0", "4 a", "a 0", "4 0;", "4\t0", "0000004 0", "4-0", "- 0"]:
            for text, row in [(wrong + "\n4 0", 0), ("4 0\n" + wrong + "\n1 2", 1), ("4 0\n" + wrong, 1)]:
                self.check_steps(skin, (), text, row)
            if wrong:
                self.check_steps(skin, (), wrong, 0)

    def test_empty_rows(self):
        skin = sheet(2, 2)
        self.check_steps(skin, (), "4 0\n\n1 2", 1)
        self.check_steps(skin, (), "4 0\n", 1)
        self.check_steps(skin, (), "\n4 0", 0)
        self.check_steps(skin, (), "\n", 0)

    def test_the_first_of_several(self):
        skin = sheet(2, 2)
        self.check_steps(skin, (), "4 0\n4 0\n4\n", 1)
        self.check_steps(skin, (), "4 0\n4\n4 0\n", 1)
        self.check_steps(skin, (), "4 0\n1 2\n9 9\n4 0", 2)

    def test_random_texts(self):
        chance = random.Random(71)
        skin = sheet(3, 3)
        seen = set()
        for _ in range(150):
            rows = [f"{chance.randint(-1, 16)} {chance.randint(0, 15)}" for _ in range(3)]
            rows = [f"{b} {a}" for b, a, star in thinned_steps(skin)[:chance.randint(0, 4)]] + rows
            seen.add(self.check_by_model(skin, (5,), rows))
        self.assertGreater(len(seen), 2)

    def check_by_model(self, skin, stay, rows):
        now = skin
        for at, row in enumerate(rows):
            b, a = [int(word) for word in row.split(" ")]
            there = range(len(skin[0]))
            if b not in there or a not in there or a == b or plain.bar(now, stay, b, a) is not None:
                self.check_steps(skin, stay, "\n".join(rows), at)
                return at
            now = plain.drawn(now, b, a)
        self.assertEqual([step[:2] for step in read_steps(skin, stay, "\n".join(rows))],
                         [tuple(int(word) for word in row.split(" ")) for row in rows])
        return None

    def test_what_is_told_is_the_askers_own(self):
        skin = sheet(3, 3)
        steps = thinned_steps(skin)
        text, kept = steps_text(steps), list(steps)
        for ask in [lambda: read_steps(skin, (), text), lambda: read_steps(skin, (), ""), lambda: steps_text(steps),
                    lambda: read_skin(skin_text(skin))]:
            check_own(self, ask)
        self.assertEqual(steps, kept)


if __name__ == "__main__":
    unittest.main()
