"""Moments, the states of what changes and can be taken back, and trials, which end as they began.

Moments do not change: so all that can be taken back is held again as soon as an earlier moment is held.
"""


class Moment:
    """A state, and the moment ahead of the change that led to it, None if no change did."""

    def __init__(self, state, before):
        self.state = state
        self.before = before
        self.depth = 0 if before is None else before.depth + 1


class Trial:
    """For a `with` statement over an object with moments, which holds the same one again at its end."""

    def __init__(self, owner):
        self._owner = owner
        # One trial may stand within itself: so there may be several beginnings, the last one ahead.
        self._begun = None

    def __enter__(self):
        self._begun = Moment(self._owner._now, self._begun)
        return self._owner

    def __exit__(self, kind, value, trace):
        self._owner._now = self._begun.state
        self._begun = self._begun.before
