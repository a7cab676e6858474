"""Benches: tanks whose widths are all told, led step by step."""

from valvelevels.checks import check_width, copied
from valvelevels.errors import InvalidStep, NothingToUndo
from valvelevels.flows import after, all_water, first_water, is_ended, told_levels, told_widths
from valvelevels.plans import check_step, check_tanks
from valvelevels.scripts import Script


class Bench:
    """Tanks at a told width of the unknown one, and the steps that were done with them so far."""

    def __init__(self, tanks, width):
        check_tanks(tanks)
        check_width(width)
        self._tanks = copied(tanks)
        self._width = width
        self._widths = told_widths(tanks, width)
        self._steps = []
        # What the water was ahead of all steps, and behind each of them.
        self._waters = [first_water(tanks)]
        self._ended = None

    def __call__(self, step):
        """Do a step, and return True if an `unless` ends the script, otherwise False."""
        check_step(step, len(self._tanks))
        if self._ended is not None:
            raise InvalidStep(copied(step))
        water = self._waters[-1]
        ends = is_ended(step, water, self._widths)
        if ends:
            self._ended = len(self._steps)
        self._steps.append(copied(step))
        self._waters.append(after(step, water, self._widths))
        return ends

    def levels(self):
        """Return the levels of all tanks, fractions."""
        return told_levels(self._waters[-1], self._widths, self._width)

    def water(self):
        """Return the amount of all water, a fraction."""
        return all_water(self._waters[-1])

    @property
    def ended(self):
        """The index of the `unless` that ended the script, None if there is none."""
        return self._ended

    def undo(self):
        """Take back the last step."""
        if not self._steps:
            raise NothingToUndo(0)
        self._steps.pop()
        self._waters.pop()
        # Behind the step that ends a script there is none.
        self._ended = None

    def script(self):
        """Return the script with the steps so far."""
        return Script(self._tanks, self._steps)

    def __len__(self):
        """Return the number of the steps."""
        return len(self._steps)

    def __eq__(self, other):
        """Return True for a bench with the same tanks, the same steps and the same width."""
        if not isinstance(other, Bench):
            return False
        return self._tanks == other._tanks and self._steps == other._steps and self._width == other._width
