"""[15] and [17] told over again, plainly and slowly. Nothing here uses the program."""

import itertools

import plain


def touched(step):
    return sorted({corner for triangle in step[2] for corner in triangle[:3]})


def leans(steps):
    told = []
    for number, (b, a, star) in enumerate(steps):
        told.append([k for k in range(number) if {b, a} & set(touched(steps[k]))])
    return told


def all_choices(steps):
    numbers = range(len(steps))
    return [list(choice) for many in range(len(steps) + 1) for choice in itertools.combinations(numbers, many)]


def is_closed(steps, choice):
    on = leans(steps)
    return all(set(on[number]) <= set(choice) for number in choice)


def closed_choices(steps):
    on = leans(steps)
    return [choice for choice in all_choices(steps) if all(set(on[number]) <= set(choice) for number in choice)]


def mixed(first, steps, choice):
    """The skin behind; each step must be let, with the same star."""
    skin = first
    for number in choice:
        b, a, star = steps[number]
        assert plain.bar(skin, (), b, a) is None
        assert plain.star(skin, b) == star
        skin = plain.drawn(skin, b, a)
    return skin


def meets(corners, triangle, box):
    low, high = box
    places = [corners[k] for k in triangle[:3]]
    for axis in range(3):
        least, greatest = min(place[axis] for place in places), max(place[axis] for place in places)
        if not (low[axis] <= greatest and high[axis] >= least):
            return False
    return True


def part(skin, box):
    return [triangle for triangle in skin[1] if meets(skin[0], triangle, box)]


def barred(first, steps, wish):
    box, many = wish
    told = []
    for number, (b, a, star) in enumerate(steps):
        if number >= many and any(meets(first[0], triangle, box) for triangle in star):
            told.append(number)
    return told


def without(steps, barred_):
    """Takes out what leans on what is out, again and again, till nothing does."""
    on = leans(steps)
    left = [number for number in range(len(steps)) if number not in barred_]
    while True:
        kept = [number for number in left if set(on[number]) <= set(left)]
        if kept == left:
            return left
        left = kept
