"""Hearings: the steps of an unknown pattern of a row are heard one behind another."""

from lastcopied.errors import Full, InvalidNumber, NothingToUndo, Unheard
from lastcopied.heard import check_step, check_stretch, next_steps, patterns_with, sure_steps
from lastcopied.rows import check_row
from lastcopied.values import is_within

GREATEST_MOST = 300


class Trying:
    """A block of trying, for `with` or by hand: behind it the hearing is as it was ahead of it."""

    def __init__(self, hearing):
        self._hearing = hearing
        self._steps = ()
        self._fixed = 0

    def begin(self):
        """Begins the block and returns the hearing."""
        hearing = self._hearing
        self._steps = hearing._steps
        self._fixed = hearing._fixed
        hearing._fixed = len(hearing._steps)
        return hearing

    def finish(self):
        hearing = self._hearing
        hearing._steps = self._steps
        hearing._fixed = self._fixed

    def __enter__(self):
        return self.begin()

    def __exit__(self, kind, value, trace):
        self.finish()


class Hearing:
    """What is heard of a row, and what it tells about the steps to come."""

    def __init__(self, row):
        check_row(row)
        self._row = row
        self._steps = ()
        # So many steps were heard ahead of the block, and cannot be taken back inside of it.
        self._fixed = 0

    @property
    def row(self):
        """The row."""
        return self._row

    @property
    def heard(self):
        """The list of the steps."""
        return list(self._steps)

    @property
    def left(self):
        """The ascending list of the patterns that have the steps."""
        return patterns_with(self._row, self.heard)

    @property
    def following(self):
        """The ascending list of all steps that can follow."""
        return next_steps(self._row, self.heard)

    def hear(self, step):
        """Puts a step behind the others and returns how many patterns are left."""
        check_step(step)
        many = self._many_with([step])
        self._steps = self._steps + (step,)
        return many

    def undo(self):
        """Takes the last step back and returns it."""
        if len(self._steps) == self._fixed:
            raise NothingToUndo("no step was heard, or none inside of this block")
        step = self._steps[-1]
        self._steps = self._steps[:-1]
        return step

    def sure(self):
        """The tuple of the steps that surely follow and those that can follow then."""
        return sure_steps(self._row, self.heard)

    def twin(self):
        """An independent copy, outside of all blocks."""
        return self._passed_on(Hearing(self._row))

    def trying(self):
        """A block of trying, for `with` or by begin and finish."""
        return Trying(self)

    def tried(self, steps):
        """The list of how many patterns are left behind each of the steps, which are not kept."""
        check_stretch(steps)
        fitting = self._fitting(steps)
        # Once no pattern is left none comes back, so that one look behind the last step is enough.
        self._many_with(fitting)
        if len(fitting) < len(steps):
            raise Full("there are too many steps")
        with self.trying():
            return [self.hear(step) for step in steps]

    def _many_with(self, steps):
        """How many patterns have the steps heard and these ones behind them; Unheard if none has."""
        many = len(patterns_with(self._row, self.heard + steps))
        if many == 0:
            raise Unheard("no pattern of the row has these steps")
        return many

    def _fitting(self, steps):
        """The first ones of the steps, as many as there is room for."""
        return steps

    def _passed_on(self, other):
        """The other hearing, a new one of the same row, with the steps of this one."""
        other._steps = self._steps
        return other


class CountingHearing(Hearing):
    """A hearing that counts the steps that were heard in all."""

    def __init__(self, row):
        super().__init__(row)
        self._calls = 0

    @property
    def calls(self):
        """How many steps were heard in all, those that were taken back too."""
        return self._calls

    def hear(self, step):
        """Puts a step behind the others and returns how many patterns are left."""
        many = super().hear(step)
        self._calls = self._calls + 1
        return many

    def twin(self):
        """An independent copy, outside of all blocks."""
        return self._passed_on(CountingHearing(self._row))

    def _passed_on(self, other):
        other._calls = self._calls
        return super()._passed_on(other)


class CappedHearing(Hearing):
    """A hearing of a limited number of steps."""

    def __init__(self, row, most):
        super().__init__(row)
        if not is_within(most, 0, GREATEST_MOST):
            raise InvalidNumber("the most steps are an integer from 0 to 300")
        self._most = most

    @property
    def most(self):
        """The greatest number of steps."""
        return self._most

    def hear(self, step):
        """Puts a step behind the others and returns how many patterns are left."""
        check_step(step)
        if not self._fitting([step]):
            raise Full("there are as many steps as may be")
        return super().hear(step)

    def twin(self):
        """An independent copy, outside of all blocks."""
        return self._passed_on(CappedHearing(self._row, self._most))

    def _fitting(self, steps):
        return steps[:self._most - len(self._steps)]


class CappedCountingHearing(CappedHearing, CountingHearing):
    """A hearing of a limited number of steps that counts the steps that were heard in all."""

    def __init__(self, row, most):
        super().__init__(row, most)

    def twin(self):
        """An independent copy, outside of all blocks."""
        return self._passed_on(CappedCountingHearing(self._row, self._most))
