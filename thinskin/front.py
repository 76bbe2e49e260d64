"""A front: a skin whose steps are done and taken back in any order that is let."""

from thinskin.errors import NoStep
from thinskin.errors import NotYet
from thinskin.fronts import leans_of
from thinskin.fronts import skin_behind_these


class Front:
    """A first skin, the steps of a thinner of it, and which of them are done."""

    def __init__(self, first, steps):
        self.first = first
        self.steps = list(steps)
        self.leans = leans_of(steps)
        self.done = [False for step in steps]

    def check_number(self, k):
        """Raises NoStep where there is no step of that number."""
        if not 0 <= k < len(self.steps):
            raise NoStep(f"there is no step {k}")

    def may_do(self, k):
        """Whether step k is not done, and all on which it leans are."""
        return not self.done[k] and all([self.done[lean] for lean in self.leans[k]])

    def may_undo(self, k):
        """Whether step k is done, and none that is done leans on it."""
        return self.done[k] and not any([k in self.leans[other] for other in self.steps_in()])

    def do_step(self, k):
        """Does step k; or NoStep, or NotYet."""
        self.check_number(k)
        if not self.may_do(k):
            raise NotYet(f"step {k} is done already, or leans on one that is not")
        self.done[k] = True

    def undo_step(self, k):
        """Takes step k back; or NoStep, or NotYet."""
        self.check_number(k)
        if not self.may_undo(k):
            raise NotYet(f"step {k} is not done, or one that is done leans on it")
        self.done[k] = False

    def skin_now(self):
        """The skin behind the steps that are done."""
        return skin_behind_these(self.first, self.steps, self.steps_in())

    def steps_in(self):
        """The rising list of the numbers of the steps that are done."""
        return [k for k in range(len(self.steps)) if self.done[k]]

    def can_do(self):
        """The rising list of the numbers of the steps that do_step would do."""
        return [k for k in range(len(self.steps)) if self.may_do(k)]

    def can_undo(self):
        """The rising list of the numbers of the steps that undo_step would take back."""
        return [k for k in range(len(self.steps)) if self.may_undo(k)]

    def make_twin(self):
        """A front that stands likewise, of its own."""
        twin = Front(self.first, self.steps)
        twin.done = list(self.done)
        return twin
