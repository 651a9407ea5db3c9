"""Plans: walks through a sequence, forwards and back."""

from windowsteps.errors import NothingToUndo, PlanFinished
from windowsteps.sequences import steps_with_moments


class Plan:
    """A sequence from old to new numbers, some of whose steps are done."""

    def __init__(self, system, old, new):
        walked = list(steps_with_moments(system, old, new))
        self._system = system
        self._steps = [step for step, _ in walked]
        self._moments = [{name: old[name] for name in system.names}, *[numbers for _, numbers in walked]]
        self._done = 0

    @property
    def steps(self):
        """The list of all steps."""
        return list(self._steps)

    @property
    def done(self):
        """The number of the steps that are done."""
        return self._done

    @property
    def current(self):
        """The numbers after the steps that are done."""
        return dict(self._moments[self._done])

    @property
    def is_finished(self):
        """Whether all steps are done."""
        return self._done == len(self._steps)

    def advance(self):
        """Do the next step and return it."""
        if self.is_finished:
            raise PlanFinished("all steps are done")
        self._done += 1
        return self._steps[self._done - 1]

    def back(self):
        """Take back the last step that is done and return it."""
        if self._done == 0:
            raise NothingToUndo("no step is done")
        self._done -= 1
        return self._steps[self._done]

    def finish(self):
        """Do all steps that remain and return their number."""
        remaining = len(self._steps) - self._done
        self._done = len(self._steps)
        return remaining

    def abandon(self):
        """Take back all steps that are done and return their number."""
        taken_back = self._done
        self._done = 0
        return taken_back

    def turned(self):
        """The plan, at its beginning, from the current numbers to the old ones."""
        return Plan(self._system, self._moments[self._done], self._moments[0])

    def copy(self):
        """An independent plan in the same state."""
        plan = Plan(self._system, self._moments[0], self._moments[0])
        # These lists never change, so that both plans can hold them.
        plan._steps = self._steps
        plan._moments = self._moments
        plan._done = self._done
        return plan
