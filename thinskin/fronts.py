"""Which steps lean on which, and skins behind some of the steps alone.

What bars a drawing is seen at the stars of its two corners alone. So a step that
touched neither of them ahead of it may as well not have been done.
"""

from thinskin.drawing import skin_behind
from thinskin.errors import NotClosed


def touched_by(step):
    """The rising list of the corners of the step's star."""
    return sorted({corner for triangle in step[2] for corner in triangle[:3]})


def leans_of(steps):
    """A list with, for each step, the rising list of those ahead that touched its b or its a."""
    touched = [{corner: True for corner in touched_by(step)} for step in steps]
    leans = []
    for number, step in enumerate(steps):
        b, a = step[:2]
        leans.append([k for k in range(number) if b in touched[k] or a in touched[k]])
    return leans


def is_closed(steps, choice):
    """Whether the choice has, with each step, all on which that leans."""
    leans = leans_of(steps)
    chosen = {number: True for number in choice}
    return all([lean in chosen for number in choice for lean in leans[number]])


def with_leans(steps, choice):
    """The least closed choice that has all of this one."""
    leans = leans_of(steps)
    chosen = {number: True for number in choice}
    # Steps lean on those ahead of them alone: the last ones first, each is seen once.
    for number in range(len(steps) - 1, -1, -1):
        if number in chosen:
            for lean in leans[number]:
                chosen[lean] = True
    return sorted(chosen)


def without_these(steps, choice):
    """The greatest closed choice that has none of this one."""
    leans = leans_of(steps)
    left_out = {number: True for number in choice}
    for number in range(len(steps)):
        if any([lean in left_out for lean in leans[number]]):
            left_out[number] = True
    return [number for number in range(len(steps)) if number not in left_out]


def check_closed(steps, choice):
    """Raises NotClosed where the choice is not closed."""
    if not is_closed(steps, choice):
        raise NotClosed("the choice lacks a step on which one of its own leans")


def skin_behind_these(first, steps, choice):
    """The skin behind the steps of a closed choice, in their order."""
    skin = first
    for number in choice:
        skin = skin_behind(skin, steps[number])
    return skin


def mixed_skin(first, steps, choice):
    """The skin behind the steps of the choice alone, in their order; or NotClosed."""
    check_closed(steps, choice)
    return skin_behind_these(first, steps, choice)
