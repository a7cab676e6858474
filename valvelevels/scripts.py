"""Scripts: tanks, just one of an unknown width, and steps."""

from valvelevels.checks import copied
from valvelevels.plans import check_exchange, check_index, check_step, check_tanks


class Script:
    """Tanks and the steps that are done with them; a script never changes."""

    def __init__(self, tanks, steps):
        check_tanks(tanks)
        for step in steps:
            check_step(step, len(tanks))
        self._tanks = copied(tanks)
        self._steps = copied(steps)

    @property
    def tanks(self):
        """The list of the tanks."""
        return copied(self._tanks)

    @property
    def steps(self):
        """The list of the steps."""
        return copied(self._steps)

    @property
    def unknown(self):
        """The number of the tank whose width is unknown."""
        return [width for width, _ in self._tanks].index(None)

    def __getitem__(self, at):
        """Return the step with an index."""
        check_index(at, len(self._steps))
        return copied(self._steps[at])

    def __iter__(self):
        raise TypeError("a script is not iterated over")

    def without(self, index):
        """Return the script without a step."""
        check_index(index, len(self._steps))
        return Script(self._tanks, self._steps[:index] + self._steps[index + 1:])

    def exchanged(self, index):
        """Return the script with a step and the next one exchanged."""
        check_exchange(index, len(self._steps))
        first, behind = self._steps[index], self._steps[index + 1]
        return Script(self._tanks, self._steps[:index] + [behind, first] + self._steps[index + 2:])

    def __len__(self):
        """Return the number of the steps."""
        return len(self._steps)

    def __eq__(self, other):
        """Return True for a script with the same tanks and the same steps, in order."""
        return isinstance(other, Script) and self._tanks == other._tanks and self._steps == other._steps
