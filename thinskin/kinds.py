"""Telling kinds of values apart more strictly than Python's own equality does."""


def is_number(thing):
    """Whether it is a whole number (Python counts True and False among them)."""
    return isinstance(thing, int) and not isinstance(thing, bool)


def is_alike(told, thing):
    """Whether a thing is what was told: a number, or a tuple of such and of tuples.

    Python holds True and 1 equal; as answers they are not.
    """
    if is_number(told):
        return is_number(thing) and told == thing
    if not isinstance(thing, tuple) or len(told) != len(thing):
        return False
    return all([is_alike(one, other) for one, other in zip(told, thing)])
