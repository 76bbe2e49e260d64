"""[20] told over again, over rows that are rightly written. Nothing here uses the program."""

from fractions import Fraction

import plain
import plain_far
import plain_steps
from model import Model


def joined(rows):
    return "; ".join(" ".join(str(number) for number in row) for row in rows) or "-"


def both_bounds(one, other, halvings):
    ways = [plain_far.bounds(one, other, halvings), plain_far.bounds(other, one, halvings)]
    return [plain_far.pair(max(Fraction(*way[k]) for way in ways)) for k in range(2)]


class Desk:
    def __init__(self, skin, stay):
        self.model = Model(skin, stay)

    def answer(self, row):
        word, *numbers = row.split(" ")
        return getattr(self, "on_" + word)(*[int(number) for number in numbers])

    def skin(self):
        return self.model.skins[self.model.at]

    def on_draw(self, b, a):
        if plain.bar(self.skin(), self.model.stay, b, a) is not None:
            return "refused Barred"
        self.model.draw(b, a)
        return f"{b} {a}"

    def on_back(self):
        if self.model.at == 0:
            return "refused AtEnd"
        self.model.at -= 1
        return joined([self.model.steps[self.model.at][:2]])

    def on_forth(self):
        if self.model.at == len(self.model.steps):
            return "refused AtEnd"
        self.model.at += 1
        return joined([self.model.steps[self.model.at - 1][:2]])

    def on_thin(self, most):
        drawn = []
        while len(self.skin()[1]) > most and self.model.prices():
            drawn.append(self.model.prices()[0])
            self.model.draw(*drawn[-1][1:])
        return joined(drawn)

    def on_least(self):
        return joined(self.model.prices()[:1])

    def on_bar(self, b, a):
        return plain.bar(self.skin(), self.model.stay, b, a) or "-"

    def on_steps(self):
        return joined([step[:2] for step in self.model.steps[:self.model.at]])

    def on_undone(self):
        return joined([step[:2] for step in self.model.steps[self.model.at:]])

    def on_shape(self):
        return joined([plain.shape(self.skin())])

    def on_marks(self):
        return joined(plain.marked(self.skin()))

    def on_skin(self):
        return joined(self.skin()[1])

    def on_far(self, halvings):
        return " ".join(f"{n}/{d}" for n, d in both_bounds(self.skin(), self.model.skins[0], halvings))

    def on_view(self, many, *box):
        first, steps = self.model.skins[0], self.model.steps[:self.model.at]
        barred = plain_steps.barred(first, steps, ((box[:3], box[3:]), many))
        return str(len(plain_steps.mixed(first, steps, plain_steps.without(steps, barred))[1]))
