"""A thinner: a skin that is drawn together step by step, with steps taken back and done again."""

from thinskin.drawing import bar_of
from thinskin.drawing import drawn_skin
from thinskin.errors import AtEnd
from thinskin.prices import planes_of
from thinskin.prices import prices_of


def planes_drawn(planes, b, a):
    """The planes behind drawing b to a, in a list of their own."""
    drawn = list(planes)
    drawn[a] = planes[a] + planes[b]
    drawn[b] = []
    return drawn


class Thinner:
    """A skin, the steps done on it, and those taken back."""

    def __init__(self, skin, stay):
        self.stay = stay
        # Pairs (skin, planes): the first one, then one behind each step done. None
        # of them is ever changed, so that twins may have them in common.
        self.stages = [(skin, planes_of(skin))]
        self.done = []
        # The step taken back last stands last.
        self.undone = []

    def first_skin(self):
        """The skin with which it began."""
        return self.stages[0][0]

    def skin_now(self):
        """The skin behind all steps done."""
        return self.stages[-1][0]

    def staying(self):
        """The tuple of the corners that stay."""
        return self.stay

    def bar_to(self, b, a):
        """What bars b from being drawn to a now, or None."""
        return bar_of(self.skin_now(), self.stay, b, a)

    def take_step(self, b, a):
        """Draws b to a, whatever was taken back before, and tells the step; or Barred."""
        skin, planes = self.stages[-1]
        behind, step = drawn_skin(skin, self.stay, b, a)
        self.stages.append((behind, planes_drawn(planes, b, a)))
        self.done.append(step)
        return step

    def draw_to(self, b, a):
        """Draws b to a and tells the step; or Barred."""
        step = self.take_step(b, a)
        self.undone = []
        return step

    def prices_now(self):
        """The rising list of (price, b, a) of all drawings that are let now."""
        skin, planes = self.stages[-1]
        return prices_of(skin, self.stay, planes)

    def least_now(self):
        """The first of the prices now, or None."""
        prices = self.prices_now()
        return prices[0] if prices else None

    def steps_done(self):
        """The list of the steps done, in order."""
        return list(self.done)

    def go_back(self):
        """Takes the last step back and tells it; or AtEnd."""
        if not self.done:
            raise AtEnd("no step is done")
        step = self.done.pop()
        self.stages.pop()
        self.undone.append(step)
        return step

    def go_forth(self):
        """Does again the step taken back last and tells it; or AtEnd."""
        if not self.undone:
            raise AtEnd("no step is taken back")
        b, a = self.undone.pop()[:2]
        return self.take_step(b, a)

    def steps_undone(self):
        """The list of the steps that go_forth would do, in order."""
        return self.undone[::-1]

    def thin_to(self, most):
        """Draws the least again and again, down to so many triangles; tells what it drew."""
        drawn = []
        while len(self.skin_now()[1]) > most:
            least = self.least_now()
            if least is None:
                break
            price, b, a = least
            self.draw_to(b, a)
            drawn.append(least)
        return drawn

    def make_twin(self):
        """A thinner that stands likewise, of its own."""
        twin = Thinner(self.first_skin(), self.stay)
        twin.stages = list(self.stages)
        twin.done = list(self.done)
        twin.undone = list(self.undone)
        return twin
