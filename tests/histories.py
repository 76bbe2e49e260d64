"""Skins and steps that thinners of them told, for the tests."""

import random

from forms import all_forms, beside, bumpy, double_tip, renumbered, ring, sheet, spread, tip, tube
from thinskin.thinner import Thinner


def thinned_steps(skin, stay=(), most=0):
    """The steps of a thinner that went by the prices."""
    thinner = Thinner(skin, stay)
    thinner.thin_to(most)
    return thinner.steps_done()


def steps_by_chance(skin, seed, stay=(), many=1000):
    """The steps of a thinner that drew by chance, back and forth now and then."""
    chance = random.Random(seed)
    thinner = Thinner(skin, stay)
    while len(thinner.steps_done()) < many:
        prices = thinner.prices_now()
        if not prices:
            break
        thinner.draw_to(*chance.choice(prices)[1:])
        if chance.random() < 0.2:
            thinner.go_back()
            if chance.random() < 0.5:
                thinner.go_forth()
    return thinner.steps_done()


def small_histories():
    """Of few steps, so that all choices can be tried."""
    skins = {
        "sheet": sheet(3, 3),
        "bumpy": sheet(3, 3, bumpy(1)),
        "two": beside(sheet(2, 2), sheet(2, 2)),
        "double tip": double_tip(7),
        "spread": spread(sheet(3, 2)),
    }
    found = {}
    for name, skin in skins.items():
        found[name] = (skin, thinned_steps(skin)[:9])
        found[name + " by chance"] = (skin, steps_by_chance(skin, name)[:9])
    found["none"] = (tip(), [])
    found["one"] = (sheet(2, 2), thinned_steps(sheet(2, 2))[:1])
    return found


def all_histories():
    found = {}
    for name, skin in all_forms().items():
        found[name] = (skin, thinned_steps(skin))
        found[name + " by chance"] = (skin, steps_by_chance(skin, name))
    largest = renumbered(ring(12, 10), 1)
    found["largest"] = (largest, thinned_steps(largest, most=120))
    tubes = tube(8, 6)
    found["staying"] = (tubes, steps_by_chance(tubes, 5, stay=(10, 11, 12, 30)))
    return found
