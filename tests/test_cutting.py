"""[18]: skins cut along their seams, and joined."""

import copy
import random
import unittest

import plain
import plain_cutting
from forms import all_forms, beside, box, bumpy, make_skin, relabelled, renumbered, ring, sheet, spread, tip, triangle
from things import check_own
from thinskin.cutting import cut_pieces, joined_skin, regions_of
from thinskin.errors import NoJoin
from thinskin.thinner import Thinner


def pinched(height=None):
    """Two squares meet at corner 12 alone; all round them is one region, which is pinched there."""
    return sheet(4, 4, height, lambda x, y: int((x, y) in [(2, 1), (1, 2)]))


def pinched_at_nought():
    """The pinched one, its triangles there rising by turns of one fan and the other."""
    first = [12, 6, 13, 18, 11]
    order = first + [k for k in range(25) if k not in first]
    corners, triangles = pinched()
    return make_skin([corners[k] for k in order], [
        (order.index(a), order.index(b), order.index(c), label) for a, b, c, label in triangles])


FORMS = dict(all_forms(), **{
    "pinched": pinched(),
    "pinched and shuffled": renumbered(pinched(), 2),
    "pinched and spread": spread(pinched(bumpy(3))),
    "pinched at nought": pinched_at_nought(),
    "pinched twice": sheet(6, 4, label=lambda x, y: int((x, y) in [(2, 1), (1, 2), (4, 1), (3, 2)])),
    "stripes": sheet(4, 4, label=lambda x, y: x % 2),
    "stripes round a ring": ring(6, 5, lambda k, j: k % 2),
    "a stripe along a ring": renumbered(ring(6, 5, lambda k, j: int(j == 0)), 4),
    "many labels": relabelled(renumbered(ring(6, 6), 5), 6, range(10)),
    "three by three": relabelled(renumbered(sheet(5, 5, bumpy(1)), 7), 8, [0, 0, 1]),
})


class Regions(unittest.TestCase):
    def test_by_hand(self):
        self.assertEqual(regions_of(triangle()), [((0, 1, 2, 0),)])
        halves = sheet(2, 1, label=lambda x, y: x)
        self.assertEqual(regions_of(halves), [((0, 1, 4, 0), (0, 4, 3, 0)), ((1, 2, 5, 1), (1, 5, 4, 1))])
        self.assertEqual(regions_of(sheet(2, 2)), [sheet(2, 2)[1]])
        self.assertEqual([len(region) for region in regions_of(pinched())], [28, 2, 2])

    def test_like_labels_that_only_meet_at_a_corner_are_apart(self):
        checks = sheet(2, 2, label=lambda x, y: (x + y) % 2)
        self.assertEqual([len(region) for region in regions_of(checks)], [2, 2, 2, 2])

    def test_told_over_again(self):
        for name, skin in FORMS.items():
            told = regions_of(skin)
            self.assertEqual(told, plain_cutting.regions(skin), name)
            self.assertIs(type(told), list)
            self.assertEqual({type(region) for region in told}, {tuple})
            self.assertEqual(sorted(trio for region in told for trio in region), list(skin[1]))
            self.assertEqual([region[0] for region in told], sorted(region[0] for region in told))

    def test_the_largest(self):
        skin = relabelled(renumbered(ring(12, 10), 1), 2, range(10))
        self.assertEqual(regions_of(skin), plain_cutting.regions(skin))


class Pieces(unittest.TestCase):
    def test_by_hand(self):
        halves = sheet(2, 1, label=lambda x, y: x)
        one, other = cut_pieces(halves)
        self.assertEqual(one, ((((0, 0, 0), (10, 0, 0), (0, 10, 0), (10, 10, 0)), ((0, 1, 3, 0), (0, 3, 2, 0))),
                               (0, 1, 3, 4)))
        self.assertEqual(other, ((((10, 0, 0), (20, 0, 0), (10, 10, 0), (20, 10, 0)), ((0, 1, 3, 1), (0, 3, 2, 1))),
                                 (1, 2, 4, 5)))

    def test_told_over_again(self):
        for name, skin in FORMS.items():
            told = cut_pieces(skin)
            self.assertEqual(told, plain_cutting.pieces(skin), name)
            self.assertIs(type(told), list)
            for piece, origins in told:
                self.assertIs(type(origins), tuple)
                self.assertIs(plain.is_skin(piece), True, name)
                self.assertEqual(len(piece[0]), len(origins))
                self.assertEqual(list(origins), sorted(origins))
                self.assertEqual(plain.corners_of(piece), list(range(len(origins))), name)
                self.assertEqual(len(plain.parts(piece)), 1)
                self.assertEqual(len({trio[3] for trio in piece[1]}), 1)
                self.assertEqual(plain.marked(piece), plain.rim_ties(piece))

    def test_a_corner_that_several_fans_meet(self):
        (piece, origins), *others = cut_pieces(pinched())
        self.assertEqual([k for k in range(25) if origins.count(k) > 1], [12])
        self.assertEqual(origins.count(12), 2)
        at = origins.index(12)
        fans = [plain.star(piece, k) for k in (at, at + 1)]
        back = [[tuple(origins[k] for k in trio[:3]) for trio in fan] for fan in fans]
        # The fan of the least triangle comes first.
        self.assertEqual(back, [[(6, 7, 12), (6, 12, 11)], [(12, 13, 18), (12, 18, 17)]])
        # Where it was pinched the rims of both squares have become one.
        self.assertEqual(plain.shape(piece), (1, 2, 0))

    def test_fans_whose_triangles_rise_by_turns(self):
        skin = pinched_at_nought()
        region = plain_cutting.regions(skin)[0]
        (piece, origins), *others = cut_pieces(skin)
        self.assertEqual(origins[:3], (0, 0, 1))
        back = [tuple(origins[k] for k in trio[:3]) + trio[3:] for trio in piece[1]]
        self.assertEqual(sorted(back), list(region))
        self.assertNotEqual(back, list(region))
        self.assertEqual(list(piece[1]), sorted(piece[1]))

    def test_fans_by_their_least_triangle(self):
        seen = 0
        for seed in range(12):
            skin = renumbered(pinched(), seed)
            for piece, origins in cut_pieces(skin):
                for corner in set(origins):
                    numbers = [k for k, origin in enumerate(origins) if origin == corner]
                    least = []
                    for k in numbers:
                        star = plain.star(piece, k)
                        least.append(min(plain_cutting.turned(*[origins[j] for j in t[:3]], t[3]) for t in star))
                    self.assertEqual(least, sorted(least))
                    seen += len(least) > 1
        self.assertEqual(seen, 12)

    def test_the_least_corner_is_first_and_the_order_is_kept_round(self):
        for seed in range(12):
            skin = renumbered(pinched(), seed)
            for piece, origins in cut_pieces(skin):
                for a, b, c, label in piece[1]:
                    self.assertLess(a, min(b, c))
                    self.assertIn(plain_cutting.turned(origins[a], origins[b], origins[c], label), skin[1])

    def test_corners_in_no_triangle_are_in_no_piece(self):
        for piece, origins in cut_pieces(spread(pinched(), 2)):
            self.assertEqual({origin % 3 for origin in origins}, {2})

    def test_a_skin_without_seams(self):
        for skin in [tip(), ring(5, 4), sheet(3, 3), renumbered(sheet(3, 3), 1)]:
            self.assertEqual(cut_pieces(skin), [(skin, tuple(range(len(skin[0]))))])

    def test_the_largest(self):
        skin = relabelled(renumbered(ring(12, 10), 1), 2, [0, 1])
        pieces = cut_pieces(skin)
        self.assertEqual(pieces, plain_cutting.pieces(skin))
        self.assertEqual(joined_skin(skin[0], pieces), skin)
        every = relabelled(ring(12, 10), 3, range(10))
        self.assertEqual(joined_skin(every[0], cut_pieces(every)), every)


class Joining(unittest.TestCase):
    def check_none(self, corners, pieces):
        with self.assertRaises(NoJoin) as caught:
            joined_skin(corners, pieces)
        self.assertIs(type(caught.exception), NoJoin)

    def check(self, corners, pieces):
        wanted = plain_cutting.joined(corners, pieces)
        if wanted is None:
            self.check_none(corners, pieces)
        else:
            self.assertEqual(joined_skin(corners, pieces), wanted)
        return wanted is not None

    def test_the_skin_again(self):
        for name, skin in FORMS.items():
            pieces = cut_pieces(skin)
            self.assertEqual(joined_skin(skin[0], pieces), skin, name)
            self.assertEqual(joined_skin(skin[0], pieces[::-1]), skin, name)

    def test_in_another_table(self):
        # The same pieces in a table of another order: the least corner is put first there.
        for name, skin in FORMS.items():
            order = list(range(len(skin[0])))
            random.Random(name).shuffle(order)
            corners = tuple(skin[0][order.index(k)] for k in range(len(order)))
            pieces = [(piece, tuple(order[origin] for origin in origins)) for piece, origins in cut_pieces(skin)]
            told = joined_skin(corners, pieces)
            self.assertEqual(told, make_skin(corners, [
                (order[a], order[b], order[c], label) for a, b, c, label in skin[1]]), name)

    def test_some_pieces_alone(self):
        seen = set()
        for name in ["halves", "four labels", "pinched", "stripes", "labelled box", "two colours by chance",
                     "labelled tube", "three by three"]:
            skin = FORMS[name]
            pieces = cut_pieces(skin)
            chance = random.Random(name)
            for _ in range(12):
                some = chance.sample(pieces, chance.randint(1, len(pieces)))
                seen.add(self.check(skin[0], some))
        self.assertEqual(seen, {True, False})

    def test_no_pieces(self):
        self.check_none(triangle()[0], [])
        self.check_none((), [])

    def test_a_place_that_is_not_that_of_its_origin(self):
        skin = sheet(2, 1, label=lambda x, y: x)
        pieces = cut_pieces(skin)
        for at in range(len(skin[0])):
            corners = list(skin[0])
            corners[at] = (corners[at][0], corners[at][1], 1)
            self.check_none(tuple(corners), pieces)
        for number, (piece, origins) in enumerate(pieces):
            for at in range(len(origins)):
                for other in set(range(6)) - {origins[at]}:
                    changed = list(pieces)
                    changed[number] = (piece, origins[:at] + (other,) + origins[at + 1:])
                    self.check_none(skin[0], changed)

    def test_a_place_of_a_corner_in_no_triangle(self):
        skin = triangle()
        piece = (skin[0] + ((7, 7, 7),), skin[1])
        corners = skin[0] + ((7, 7, 7), (8, 8, 8))
        self.assertEqual(joined_skin(corners, [(piece, (0, 1, 2, 3))]), (corners, skin[1]))
        for origin in [0, 1, 2, 4]:
            self.check_none(corners, [(piece, (0, 1, 2, origin))])
        # Two corners of the piece may come to be one, where no triangle has both.
        piece = (skin[0] + skin[0][:1], skin[1])
        self.assertEqual(joined_skin(skin[0], [(piece, (0, 1, 2, 0))]), skin)

    def test_a_triangle_that_comes_twice(self):
        for name in ["triangle", "halves", "labelled box", "tip"]:
            skin = FORMS[name]
            pieces = cut_pieces(skin)
            for piece in pieces:
                self.check_none(skin[0], pieces + [piece])
                self.check_none(skin[0], [piece, piece])
        # Also from pieces that are not alike, and with another label.
        corners, (p, q, r, s) = sheet(2, 1)
        one, other = (corners, (p, q, s)), (corners, (r, s))
        every = tuple(range(6))
        self.assertEqual(plain.is_skin(one) and plain.is_skin(other), True)
        self.check_none(corners, [(one, every), (other, every)])
        labelled = (triangle()[0], ((0, 1, 2, 5),))
        self.check_none(triangle()[0], [(triangle(), (0, 1, 2)), (labelled, (0, 1, 2))])
        turned = (triangle()[0], ((0, 2, 1, 0),))
        self.check_none(triangle()[0], [(triangle(), (0, 1, 2)), (turned, (0, 1, 2))])

    def test_within_one_piece_a_triangle_that_comes_twice(self):
        two = beside(triangle(), triangle())
        self.check_none(triangle()[0], [(two, (0, 1, 2, 0, 1, 2))])
        self.assertEqual(joined_skin(two[0], [(two, (0, 1, 2, 3, 4, 5))]), two)
        self.assertEqual(joined_skin(two[0], [(two, (3, 4, 5, 0, 1, 2))]), two)
        self.assertEqual(joined_skin(two[0], [(two, (0, 4, 5, 3, 1, 2))]),
                         (two[0], ((0, 4, 5, 0), (1, 2, 3, 0))))

    def test_two_corners_of_a_triangle_that_come_to_be_one(self):
        for origins in [(0, 0, 2), (0, 1, 0), (0, 1, 1), (2, 2, 2)]:
            self.check_none(triangle()[0], [(triangle(), origins)])

    def test_what_is_no_skin(self):
        corners, triangles = sheet(2, 2)
        every = tuple(range(9))
        fan = [((corners, (triangles[0],)), every), ((corners, (triangles[-1],)), every)]
        self.check_none(corners, fan)
        alone = (((0, 0, 0), (4, 0, 0), (0, 4, 0), (4, 4, 4)), ((0, 1, 3, 0),))
        arrow = [(triangle(), (0, 1, 2)), (alone, (0, 1, 2, 3))]
        self.check_none(alone[0], arrow)
        self.assertEqual(plain.fault(alone[0], ((0, 1, 2, 0), (0, 1, 3, 0))), ("arrow", (0, 1)))

    def test_parts_that_come_together(self):
        # The piece has a tip twice; joined they are one skin where they meet along a tie.
        two = beside(sheet(1, 1), sheet(1, 1))
        moved = tuple((x + 10, y, z) for x, y, z in sheet(1, 1)[0])
        two = (two[0][:4] + moved, two[1])
        corners = sheet(2, 1)[0]
        self.assertEqual(joined_skin(corners, [(two, (0, 1, 3, 4, 1, 2, 4, 5))]), sheet(2, 1))

    def test_triangles_by_chance(self):
        seen = set()
        chance = random.Random(61)
        corners, triangles = box()
        every = tuple(range(len(corners)))
        for _ in range(300):
            pieces = []
            for _ in range(chance.randint(1, 4)):
                at = chance.randrange(len(triangles))
                some = tuple(sorted({triangles[(at + chance.randrange(3)) % len(triangles)] for _ in range(3)}))
                if plain.is_skin((corners, some)):
                    pieces.append(((corners, some), every))
            seen.add(self.check(corners, pieces))
        self.assertEqual(seen, {True, False})

    def test_thinned_pieces_whose_corners_on_rims_stayed(self):
        joined = 0
        for name, skin in FORMS.items():
            for thin in [0, 1]:
                pieces = []
                for piece, origins in cut_pieces(skin):
                    stay = tuple(sorted({corner for tie in plain.rim_ties(piece) for corner in tie}))
                    thinner = Thinner(piece, stay)
                    thinner.thin_to(0 if thin else len(piece[1]) - 2)
                    pieces.append((thinner.skin_now(), origins))
                if self.check(skin[0], pieces):
                    joined += 1
                    told = joined_skin(skin[0], pieces)
                    self.assertEqual(plain.shape(told), plain.shape(skin), name)
                    self.assertEqual(plain.lines(told), plain.lines(skin), name)
        self.assertGreater(joined, 40)

    def test_pieces_that_come_to_have_the_same_arrow(self):
        # Drawn together along the seam, both sides go the same way there.
        corners = ((0, 0, 0), (10, 0, 0), (20, 0, 0), (10, -5, 9), (10, 5, 9))
        upper = (corners, ((0, 1, 4, 0), (1, 2, 4, 0)))
        lower = (corners, ((0, 3, 1, 1), (1, 3, 2, 1)))
        every = tuple(range(5))
        self.assertIs(plain.is_skin(joined_skin(corners, [(upper, every), (lower, every)])), True)
        one = (corners, ((0, 2, 4, 0),))
        other = (corners, ((0, 2, 3, 1),))
        self.check_none(corners, [(one, every), (other, every)])


class Own(unittest.TestCase):
    def test_what_is_told_is_the_askers_own(self):
        for name in ["pinched", "checkered", "two forms"]:
            skin = FORMS[name]
            pieces = cut_pieces(skin)
            for ask in [lambda: regions_of(skin), lambda: cut_pieces(skin), lambda: joined_skin(skin[0], pieces)]:
                check_own(self, ask)

    def test_nothing_handed_in_is_changed(self):
        skin = FORMS["pinched"]
        pieces = cut_pieces(skin)
        kept = copy.deepcopy(pieces)
        joined_skin(skin[0], pieces)
        self.assertEqual(pieces, kept)
        pieces.append(pieces[0])
        kept = copy.deepcopy(pieces)
        with self.assertRaises(NoJoin):
            joined_skin(skin[0], pieces)
        self.assertEqual(pieces, kept)


if __name__ == "__main__":
    unittest.main()
