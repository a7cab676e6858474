"""Gauges: tanks led step by step, whose unknown width is narrowed down by what is seen of them."""

from valvelevels.checks import check_ranges, copied
from valvelevels.claims import check_claim, widths_that_break, widths_that_keep
from valvelevels.errors import InvalidClaim, InvalidRange, InvalidStep, NothingToUndo
from valvelevels.flows import after, first_water, levels, unknown_widths
from valvelevels.looks import check_word, parted_by
from valvelevels.plans import check_numbers, check_step, check_tanks
from valvelevels.scripts import Script
from valvelevels.stretches import are_same, difference_of, union_of


class Gauge:
    """Tanks, the steps that were done with them so far, and the widths that the unknown one may still be."""

    def __init__(self, tanks, known):
        check_tanks(tanks)
        check_ranges(known)
        if not known:
            raise InvalidRange([])
        self._tanks = copied(tanks)
        self._widths = unknown_widths(tanks)
        self._steps = []
        self._water = first_water(tanks)
        self._left = union_of(known)
        self._over = False
        # The steps, the water, the widths left and whether the script was over ahead of each step, look and stop.
        self._past = []

    def __call__(self, step):
        """Do a step that is no `unless`."""
        check_step(step, len(self._tanks))
        if step[0] == "unless" or self._over:
            raise InvalidStep(copied(step))
        self._keep()
        self._do(step)

    def see(self, one, word, other):
        """Leave the widths at which levels stand as was seen; return True if that are fewer, otherwise False."""
        check_numbers([one, other], len(self._tanks))
        check_word(word)
        left = widths_that_keep(self._ways(), (word, one, other))
        if not left:
            raise InvalidClaim((one, word, other))
        self._keep()
        return self._leave(left)

    def stop(self, one, other, seen):
        """Do an `unless`, and leave the widths at which it was seen to end the script, or not; return as `see`."""
        check_numbers([one, other], len(self._tanks))
        step = ("unless", one, other)
        if one == other or self._over:
            raise InvalidStep(step)
        left = widths_that_keep(self._ways(), ("above" if seen else "not above", one, other))
        if not left:
            raise InvalidStep(step)
        self._keep()
        self._do(step)
        self._over = seen
        return self._leave(left)

    def widths(self):
        """Return the set of the widths that are left."""
        return copied(self._left)

    def may_see(self, one, other):
        """Return the words that could be seen of two tanks now, in their order."""
        check_numbers([one, other], len(self._tanks))
        return [word for word, _ in parted_by(self._ways(), self._left, one, other)]

    def sure(self, claim):
        """Return True if a claim is true at all widths that are left, False if at none of them, otherwise None."""
        check_claim(claim, len(self._tanks))
        if not widths_that_break(self._ways(), claim):
            return True
        return None if widths_that_keep(self._ways(), claim) else False

    def undo(self):
        """Take back the last step, look or stop."""
        if not self._past:
            raise NothingToUndo(0)
        self._steps, self._water, self._left, self._over = self._past.pop()

    def script(self):
        """Return the script with the steps so far."""
        return Script(self._tanks, self._steps)

    def __len__(self):
        """Return the number of the steps, looks and stops."""
        return len(self._past)

    def __eq__(self, other):
        """Return True for a gauge with the same tanks and the same steps, at which the same widths are left."""
        if not isinstance(other, Gauge):
            return False
        return self._tanks == other._tanks and self._steps == other._steps and are_same(self._left, other._left)

    def _ways(self):
        """Return what is left of the ways of the script: one, as it is over at all widths left, or at none."""
        return [(None, levels(self._water, self._widths, 1), self._left)]

    def _keep(self):
        """Keep how all is now, so that it can be taken back."""
        self._past.append((self._steps, self._water, self._left, self._over))

    def _do(self, step):
        """Do a step, with new lists, as the old ones are kept."""
        self._steps = self._steps + [copied(step)]
        self._water = after(step, self._water, self._widths)

    def _leave(self, left):
        """Leave some of the widths that were left, and return True if that are fewer, otherwise False."""
        fewer = len(difference_of(self._left, left)) > 0
        self._left = left
        return fewer
