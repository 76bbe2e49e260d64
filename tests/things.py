"""Things of all kinds, to be handed in where a function takes anything."""


def deep_thing(depth):
    thing = 1
    for level in range(depth):
        thing = [thing] if level % 2 else (thing,)
    return thing


def odd_things():
    """Things that are neither places nor points."""
    return [
        None, True, False, 0, 1, -1, 10 ** 40,
        "", "abc", "(0, 0, 0)", "000",
        [], (), [[]], ((),), ([], [], []), ((), (), ()),
        [0, 0, 0], (0,), (0, 0), (0, 0, 0, 0),
        (None, None, None), ("0", "0", "0"), (0, "0", 0), (0, 0, None),
        ((0, 0, 0),), ((0, 0, 0), 0, 0), ([0], [0], [0]), (0, 0, [0]), (0, 0, (0,)),
        (True, False, True), (0, 0, False), (True, 0, 0), (0, True, 0),
        ((0,), (0,), (0,)), ((0, 1, 1), (0, 1, 1), (0, 1, 1)),
        ((0, 0), (0, 0), (0, 0)), (("0", "1"), ("0", "1"), ("0", "1")),
        ((None, None), (0, 1), (0, 1)), ((0, 1), (0, 1)), ((0, 1), (0, 1), (0, 1), (0, 1)),
        (((0, 1),), (0, 1), (0, 1)), ((0, (1,)), (0, 1), (0, 1)),
        deep_thing(10), [0] * 19999, tuple([(0, 1)] * 6000),
    ]
