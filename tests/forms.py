"""Skins of several forms, for the tests."""

import math
import random


def turned_round(a, b, c, label):
    """The triangle with its least corner first, by trying all three ways."""
    return min((a, b, c, label), (b, c, a, label), (c, a, b, label))


def make_skin(places, triangles):
    return tuple(places), tuple(sorted(turned_round(*triangle) for triangle in triangles))


def triangle():
    return make_skin([(0, 0, 0), (4, 0, 0), (0, 4, 0)], [(0, 1, 2, 0)])


def sheet(wide, high, height=None, label=None):
    """A sheet of squares, each of two triangles: height by corner, label by square."""
    places = []
    for y in range(high + 1):
        for x in range(wide + 1):
            places.append((10 * x, 10 * y, height(x, y) if height else 0))
    triangles = []
    for y in range(high):
        for x in range(wide):
            a = y * (wide + 1) + x
            b, c, d = a + 1, a + wide + 2, a + wide + 1
            of = label(x, y) if label else 0
            triangles += [(a, b, c, of), (a, c, d, of)]
    return make_skin(places, triangles)


def tip():
    """A closed form of four triangles."""
    places = [(0, 0, 0), (6, 0, 0), (0, 6, 0), (0, 0, 6)]
    return make_skin(places, [(0, 2, 1, 0), (0, 1, 3, 0), (1, 2, 3, 0), (0, 3, 2, 0)])


def double_tip(sides, label=0):
    """A closed form: a round of corners, and a tip on either side of it."""
    places = on_circle(sides, 900) + [(0, 0, 700), (0, 0, -700)]
    triangles = []
    for k in range(sides):
        follower = (k + 1) % sides
        triangles += [(k, follower, sides, label), (follower, k, sides + 1, label)]
    return make_skin(places, triangles)


def on_circle(sides, radius, z=0):
    angles = [2 * math.pi * k / sides for k in range(sides)]
    return [(round(radius * math.cos(t)), round(radius * math.sin(t)), z) for t in angles]


def box(label=None):
    """A closed cube with a corner in the middle of each side; label by side."""
    places = [(x, y, z) for x in (0, 20) for y in (0, 20) for z in (0, 20)]
    sides = [(0, 1, 3, 2), (4, 6, 7, 5), (0, 4, 5, 1), (2, 3, 7, 6), (0, 2, 6, 4), (1, 5, 7, 3)]
    triangles = []
    for number, side in enumerate(sides):
        places.append(tuple(sum(places[k][axis] for k in side) // 4 for axis in range(3)))
        for k in range(4):
            triangles.append((side[k], side[(k + 1) % 4], 8 + number, label(number) if label else 0))
    return make_skin(places, triangles)


def tube(sides, long, label=None):
    """A tube with two rims; label by row."""
    places = []
    for z in range(long + 1):
        places += on_circle(sides, 500, 40 * z)
    triangles = []
    for z in range(long):
        for k in range(sides):
            a, b = z * sides + k, z * sides + (k + 1) % sides
            c, d = b + sides, a + sides
            of = label(z) if label else 0
            triangles += [(a, b, c, of), (a, c, d, of)]
    return make_skin(places, triangles)


def ring(around, thick, label=None):
    """A closed ring with a handle; label by the row around and the row of its thickness."""
    places = []
    for k in range(around):
        turn = 2 * math.pi * k / around
        for j in range(thick):
            tilt = 2 * math.pi * j / thick
            far = 650 + 300 * math.cos(tilt)
            places.append((round(far * math.cos(turn)), round(far * math.sin(turn)), round(300 * math.sin(tilt))))
    triangles = []
    for k in range(around):
        for j in range(thick):
            a, b = k * thick + j, (k + 1) % around * thick + j
            c, d = (k + 1) % around * thick + (j + 1) % thick, k * thick + (j + 1) % thick
            of = label(k, j) if label else 0
            triangles += [(a, b, c, of), (a, c, d, of)]
    return make_skin(places, triangles)


def beside(one, other):
    """Two skins as one, the corners of the other behind those of the first."""
    by = len(one[0])
    moved = [(a + by, b + by, c + by, label) for a, b, c, label in other[1]]
    return make_skin(one[0] + other[0], list(one[1]) + moved)


def spread(skin, gap=1):
    """The skin with corners of the table, between its own and ahead of them, that it hasn't."""
    places = []
    for place in skin[0]:
        places += [(7, 7, 7)] * gap + [place]
    places.append((8, 8, 8))
    number = [k * (gap + 1) + gap for k in range(len(skin[0]))]
    return make_skin(places, [(number[a], number[b], number[c], label) for a, b, c, label in skin[1]])


def renumbered(skin, seed):
    """The same skin with its corners in another order."""
    order = list(range(len(skin[0])))
    random.Random(seed).shuffle(order)
    places = [None] * len(order)
    for old, new in enumerate(order):
        places[new] = skin[0][old]
    return make_skin(places, [(order[a], order[b], order[c], label) for a, b, c, label in skin[1]])


def relabelled(skin, seed, labels):
    """The same skin, each triangle with a label of chance."""
    chance = random.Random(seed)
    return make_skin(skin[0], [(a, b, c, chance.choice(labels)) for a, b, c, label in skin[1]])


def turned_over(skin):
    """The same skin with all its triangles the other way round."""
    return make_skin(skin[0], [(a, c, b, label) for a, b, c, label in skin[1]])


def bumpy(seed):
    """A height by chance, of corners of a sheet."""
    chance = random.Random(seed)
    known = {}
    return lambda x, y: known.setdefault((x, y), chance.randint(-4, 4))


def wheel(places, labels):
    """A corner 0 at the origin, and others all round it."""
    many = len(places)
    triangles = [(0, 1 + k, 1 + (k + 1) % many, labels[k]) for k in range(many)]
    return make_skin([(0, 0, 0)] + places, triangles)


def with_hole(wide, high):
    """A sheet that has no triangles in the square at its middle: a form of two rims."""
    places, triangles = sheet(wide, high)
    a = high // 2 * (wide + 1) + wide // 2
    hole = {a, a + 1, a + wide + 1, a + wide + 2}
    return places, tuple(t for t in triangles if not set(t[:3]) <= hole)


def holed_ring():
    """A ring of one handle with a rim: a triangle is gone."""
    places, triangles = ring(6, 5)
    return places, triangles[1:]


def double_ring():
    """Two rings, each without a triangle, joined there: a form of two handles."""
    corners, triangles = ring(6, 5)
    a, b, c, label = triangles[0]
    by = len(corners)
    # The arrows that are left alone there must meet the other way round.
    onto = {a + by: b, b + by: a, c + by: c}
    moved = [tuple(onto.get(k + by, k + by) for k in trio[:3]) + trio[3:] for trio in triangles[1:]]
    return make_skin(corners + corners, triangles[1:] + tuple(moved))


def all_forms():
    """Skins of many forms, by name."""
    halves = sheet(4, 4, label=lambda x, y: int(x >= 2))
    return {
        "triangle": triangle(),
        "sheet": sheet(3, 2),
        "bumpy sheet": sheet(5, 4, bumpy(1)),
        "halves": halves,
        "four labels": sheet(6, 6, label=lambda x, y: 2 * (x >= 3) + (y >= 3)),
        "bumpy halves": sheet(4, 4, bumpy(2), lambda x, y: int(y >= 2)),
        "tip": tip(),
        "double tip": double_tip(8),
        "box": box(),
        "labelled box": box(lambda side: side // 2),
        "tube": tube(6, 3),
        "labelled tube": tube(6, 4, lambda z: z // 2),
        "ring": ring(6, 5),
        "labelled ring": ring(6, 6, lambda k, j: k // 3),
        "holed ring": holed_ring(),
        "double ring": double_ring(),
        "hole": with_hole(5, 5),
        "two forms": beside(tip(), sheet(2, 2)),
        "two like forms": beside(sheet(2, 2), sheet(2, 2)),
        "three forms": beside(ring(5, 4), beside(tube(5, 2), triangle())),
        "spread sheet": spread(sheet(3, 3)),
        "spread ring": spread(ring(5, 5), 2),
        "shuffled ring": renumbered(ring(6, 6), 3),
        "shuffled sheet": renumbered(sheet(5, 5, bumpy(4)), 5),
        "shuffled halves": renumbered(halves, 6),
        "turned sheet": turned_over(sheet(4, 3, bumpy(7))),
        "checkered": relabelled(sheet(4, 4), 8, [0, 9]),
        "checkered ring": relabelled(ring(6, 5), 9, [1, 2, 3]),
        "two colours by chance": relabelled(renumbered(sheet(4, 4, bumpy(10)), 11), 12, [4, 4, 4, 5]),
    }
