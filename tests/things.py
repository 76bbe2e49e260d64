"""Things of all kinds, to be handed in where a function takes anything."""

import copy


def deep_thing(depth):
    thing = 1
    for level in range(depth):
        thing = [thing] if level % 2 else (thing,)
    return thing


def odd_things():
    """Things that are neither places nor points."""
    return [
        None, True, False, 0, 1, -1, 10 ** 40,
        "", "abc", "(0, 0, 0)", "000",
        [], (), [[]], ((),), ([], [], []), ((), (), ()),
        [0, 0, 0], (0,), (0, 0), (0, 0, 0, 0),
        (None, None, None), ("0", "0", "0"), (0, "0", 0), (0, 0, None),
        ((0, 0, 0),), ((0, 0, 0), 0, 0), ([0], [0], [0]), (0, 0, [0]), (0, 0, (0,)),
        (True, False, True), (0, 0, False), (True, 0, 0), (0, True, 0),
        ((0,), (0,), (0,)), ((0, 1, 1), (0, 1, 1), (0, 1, 1)),
        ((0, 0), (0, 0), (0, 0)), (("0", "1"), ("0", "1"), ("0", "1")),
        ((None, None), (0, 1), (0, 1)), ((0, 1), (0, 1)), ((0, 1), (0, 1), (0, 1), (0, 1)),
        (((0, 1),), (0, 1), (0, 1)), ((0, (1,)), (0, 1), (0, 1)),
        deep_thing(10), [0] * 19999, tuple([(0, 1)] * 6000),
    ]


def parts_within(thing, way=()):
    """The ways to all things within a thing of tuples, itself among them."""
    yield way
    if isinstance(thing, tuple):
        for at, part in enumerate(thing):
            yield from parts_within(part, way + (at,))


def part_at(thing, way):
    for at in way:
        thing = thing[at]
    return thing


def with_part(thing, way, new):
    """The thing with another thing at the end of the way."""
    if not way:
        return new
    at = way[0]
    return thing[:at] + (with_part(thing[at], way[1:], new),) + thing[at + 1:]


def with_truths(thing):
    """The thing with True in the place of a 1, or False in that of a 0, each by itself."""
    for way in parts_within(thing):
        part = part_at(thing, way)
        if part in (0, 1):
            yield with_part(thing, way, bool(part))


def with_lists(thing):
    """The thing with a list in the place of a tuple, each by itself."""
    for way in parts_within(thing):
        part = part_at(thing, way)
        if isinstance(part, tuple):
            yield with_part(thing, way, list(part))


def with_others(thing):
    """The thing with any of its parts otherwise, each by itself; some may be what it was."""
    for way in parts_within(thing):
        part = part_at(thing, way)
        others = [None, "", "0", [], (), True, False, [part], (part,), str(part)]
        if isinstance(part, tuple):
            others += [list(part), part[:-1], part + part[-1:], part[::-1], part[1:]]
        else:
            others += [part + 1, part - 1, -part, 10 ** 9, -1, 2000, bool(part)]
        for other in others:
            yield with_part(thing, way, other)


def lists_within(thing):
    """All lists and dicts within a thing, at any depth."""
    found = [thing] if isinstance(thing, (list, dict)) else []
    if isinstance(thing, (list, tuple)):
        for part in thing:
            found += lists_within(part)
    return found


def check_own(case, ask):
    """What is told is the asker's own: no list is told twice, and changing one changes no answer."""
    first, second = ask(), ask()
    kept = copy.deepcopy(first)
    case.assertEqual(second, kept)
    found = lists_within(first) + lists_within(second)
    case.assertEqual(len({id(one) for one in found}), len(found))
    for one in lists_within(first):
        if isinstance(one, dict):
            one["more"] = "more"
        else:
            one.append("more")
            one.reverse()
    case.assertEqual(second, kept)
    case.assertEqual(ask(), kept)
    for one in lists_within(second):
        one.clear()
    case.assertEqual(ask(), kept)
