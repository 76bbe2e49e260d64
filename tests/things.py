"""Things of all kinds, to be handed in where a function takes anything."""

import copy


def deep_thing(depth):
    thing = 1
    for level in range(depth):
        thing = [thing] if level % 2 else (thing,)
    return thing


def odd_things():
    """Things that are neither places nor points."""
    return [
        None, True, False, 0, 1, -1, 10 ** 40,
        "", "abc", "(0, 0, 0)", "000",
        [], (), [[]], ((),), ([], [], []), ((), (), ()),
        [0, 0, 0], (0,), (0, 0), (0, 0, 0, 0),
        (None, None, None), ("0", "0", "0"), (0, "0", 0), (0, 0, None),
        ((0, 0, 0),), ((0, 0, 0), 0, 0), ([0], [0], [0]), (0, 0, [0]), (0, 0, (0,)),
        (True, False, True), (0, 0, False), (True, 0, 0), (0, True, 0),
        ((0,), (0,), (0,)), ((0, 1, 1), (0, 1, 1), (0, 1, 1)),
        ((0, 0), (0, 0), (0, 0)), (("0", "1"), ("0", "1"), ("0", "1")),
        ((None, None), (0, 1), (0, 1)), ((0, 1), (0, 1)), ((0, 1), (0, 1), (0, 1), (0, 1)),
        (((0, 1),), (0, 1), (0, 1)), ((0, (1,)), (0, 1), (0, 1)),
        deep_thing(10), [0] * 19999, tuple([(0, 1)] * 6000),
    ]


def lists_within(thing):
    """All lists within a thing, at any depth."""
    found = [thing] if isinstance(thing, list) else []
    if isinstance(thing, (list, tuple)):
        for part in thing:
            found += lists_within(part)
    return found


def check_own(case, ask):
    """What is told is the asker's own: no list is told twice, and changing one changes no answer."""
    first, second = ask(), ask()
    kept = copy.deepcopy(first)
    case.assertEqual(second, kept)
    found = lists_within(first) + lists_within(second)
    case.assertEqual(len({id(one) for one in found}), len(found))
    for one in lists_within(first):
        one.append("more")
        one.reverse()
    case.assertEqual(second, kept)
    case.assertEqual(ask(), kept)
    for one in lists_within(second):
        one.clear()
    case.assertEqual(ask(), kept)
