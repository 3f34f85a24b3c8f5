"""Trials: blocks behind which something that changes is as it was before them."""


class Mark:
    """The states of something when a block began, and the mark of the block around it, None if there is none."""

    def __init__(self, states, before):
        self.states = states
        self.before = before


class Trial:
    """A block behind which what holds states has those from before the block, in whatever way it ends."""

    def __init__(self, holder):
        self._holder = holder
        # The same trial may stand within itself, so each of its blocks needs a mark of its own.
        self._mark = None

    def __enter__(self):
        self._mark = Mark(self._holder._states, self._mark)
        return self._holder

    def __exit__(self, kind, value, trace):
        holder = self._holder
        mark = self._mark
        holder._states = mark.states
        self._mark = mark.before

    def __eq__(self, other):
        return self is other


class Attempt(Trial):
    """A block behind which what holds states has those from before the block only if it ends with an exception."""

    def __exit__(self, kind, value, trace):
        holder = self._holder
        mark = self._mark
        if kind is not None:
            holder._states = mark.states
        self._mark = mark.before
