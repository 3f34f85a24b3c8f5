"""Points of view between shares and differences: by which of them one rule evens more than another one."""

from evenedshares.evening import compared
from evenedshares.neighbours import neighbours, other_bands
from evenedshares.rules import bands_of


def views(one, other=None):
    """Return the least and the greatest view by which one rule evens more, the greatest None if there is no end.

    None is returned if there is no such view at all.
    """
    first, last = 0, None
    for income, left in compared(one, other):
        found = views_of(left)
        if found is None:
            return None
        least, greatest = found
        first = max(first, least)
        if last is None or (greatest is not None and greatest < last):
            last = greatest
    if last is not None and last < first:
        return None
    return first, last


def evens_differences(one, other=None):
    """Return whether one rule evens more than the other one by differences; not, if the other one turns order."""
    bands = bands_of(one)
    pairs = neighbours(bands, other_bands(other))
    return all([0 <= high - low <= other_high - other_low for income, (low, high, other_low, other_high) in pairs])


def views_of(left):
    """Return the least and the greatest view by which neighbouring incomes do not break it, None if all do.

    With s hundredths more left of each income by both rules, low * other_high - high * other_low becomes
    ahead + s * growth: the squares of s on both sides are the same.
    """
    low, high, other_low, other_high = left
    if other_low == other_high:
        return (0, None) if low == high else None
    if low > high:
        return None
    ahead = low * other_high - high * other_low
    growth = (other_high - other_low) - (high - low)
    if growth > 0:
        # Rounded up: by a view below this they break it.
        return max(0, -(ahead // growth)), None
    if ahead < 0:
        return None
    return 0, (ahead // -growth if growth < 0 else None)
