"""A thinner told over again. Nothing here uses the program."""

import plain


class Model:
    """A thinner as the document tells it, which keeps all that it ever was."""

    def __init__(self, skin, stay):
        self.stay = stay
        self.skins = [skin]
        self.planes = [plain.planes(skin)]
        self.steps = []
        self.at = 0

    def draw(self, b, a):
        del self.skins[self.at + 1:], self.planes[self.at + 1:], self.steps[self.at:]
        skin, planes = self.skins[-1], [list(one) for one in self.planes[-1]]
        planes[a] += planes[b]
        planes[b] = []
        self.steps.append((b, a, plain.star(skin, b)))
        self.skins.append(plain.drawn(skin, b, a))
        self.planes.append(planes)
        self.at += 1
        return self.steps[-1]

    def prices(self):
        return plain.prices(self.skins[self.at], self.stay, self.planes[self.at])
