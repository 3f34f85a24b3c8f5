"""Drafts of rules, in which bands are turned."""

from evenedshares.errors import BelowNothing, InvalidIndex, InvalidNumber, NothingToUndo, TooMuch
from evenedshares.evening import evens_more
from evenedshares.integers import is_within
from evenedshares.limits import MOST_BANDS, MOST_START, MOST_VALUE
from evenedshares.rules import Rule, bands_of, first_below, is_step, is_value, left_by, with_band
from evenedshares.trials import Trial


class Draft:
    """A draft: a rule that is changed step by step, each step of which can be taken back."""

    def __init__(self, rule):
        bands_of(rule)
        # All rules up to the present one. The tuple is never modified, so that a trial can keep it and put it back.
        self._states = (rule,)

    def __eq__(self, other):
        return self is other

    @property
    def rule(self):
        """The rule as it is now."""
        return self._states[-1]

    @property
    def changes(self):
        """How many changes can be taken back."""
        return len(self._states) - 1

    def evens(self):
        """Return whether the rule evens all now."""
        return evens_more(self.rule)

    def turn(self, index, value, step):
        """Give this value and this step to the band with this index."""
        bands = self.rule.bands
        if not is_within(index, 0, len(bands) - 1):
            raise InvalidIndex(index)
        if not is_value(value):
            raise InvalidNumber(value)
        if not is_step(step):
            raise InvalidNumber(step)
        self._change(with_band(bands, index, value, step))

    def cut(self, start):
        """Let a new band begin at this income, and leave all else as it is."""
        bands = self.rule.bands
        if not is_within(start, 1, MOST_START) or start in [band[0] for band in bands]:
            raise InvalidNumber(start)
        left = left_by(bands, start)
        if len(bands) == MOST_BANDS or left > MOST_VALUE:
            raise TooMuch(start)
        lower = tuple([band for band in bands if band[0] < start])
        self._change((*lower, (start, left, lower[-1][2]), *bands[len(lower):]))

    def merge(self, index):
        """Remove the band with this index, and let the one before it go on."""
        bands = self.rule.bands
        if not is_within(index, 1, len(bands) - 1):
            raise InvalidIndex(index)
        self._change((*bands[:index], *bands[index + 1:]))

    def undo(self):
        """Take back the last change that has not been taken back."""
        if self.changes == 0:
            raise NothingToUndo()
        self._states = self._states[:-1]

    def trial(self):
        """Return a block for a `with` statement, behind which the draft is as it was when the block began."""
        return Trial(self)

    def tried(self, action):
        """Call this function with the draft within a trial, and return what it returns."""
        with self.trial() as draft:
            return action(draft)

    def _change(self, bands):
        """Let the rule have these bands from now on, unless less than 0 would be left of an income."""
        below = first_below(bands)
        if below is not None:
            raise BelowNothing(below)
        self._states = (*self._states, Rule(bands))
