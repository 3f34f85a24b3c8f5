"""Whether one rule evens more than another one for all distributions, and where not."""

from evenedshares.neighbours import breaks, neighbours, ordered_bands
from evenedshares.purses import Purse
from evenedshares.rules import bands_of


def evens_more(one, other=None):
    """Return whether one rule evens more than the other one; None is the plain rule."""
    return breaking(one, other) is None


def breaking(one, other=None):
    """Return the least income that breaks it together with the next one, None if none does."""
    broken = first_broken(compared(one, other))
    if broken is None:
        return None
    return broken[0]


def windows(one, other=None):
    """Return all windows, ascending, as pairs (first, last) of incomes, last None if there is no end."""
    found = []
    begun = None
    for income, left in compared(one, other):
        if not breaks(left):
            if begun is None:
                begun = income
        elif begun is not None:
            found.append((begun, income))
            begun = None
    if begun is not None:
        found.append((begun, None))
    return tuple(found)


def contrary(one, other=None):
    """Return a purse of incomes behind which one rule leaves less even than the other one, None if there is none."""
    broken = first_broken(compared(one, other))
    if broken is None:
        return None
    income, left = broken
    return Purse(((income, 1), (income + 1, many_above(left))))


def least_lump(one, other=None):
    """Return the least lump for everybody with which one rule would even more, None if none is enough."""
    least = 0
    for income, left in compared(one, other):
        low, high, other_low, other_high = left
        if low > high or (other_low == other_high and low != high):
            return None
        if other_low < other_high:
            lacking = high * other_low - low * other_high
            # Rounded up: a lump below this would not be enough.
            least = max(least, -(-lacking // (other_high - other_low)))
    return least


def compared(one, other):
    """Return the neighbours of two rules, and refuse what is none."""
    bands = bands_of(one)
    return neighbours(bands, ordered_bands(other))


def first_broken(pairs):
    """Return the first of these pairs (income, left) that breaks it, None if none does."""
    for income, left in pairs:
        if breaks(left):
            return income, left
    return None


def many_above(left):
    """Return how many people with the higher one of two incomes that break it show this beside one with the lower.

    One is enough if the rule spreads the two further apart. If it turns their order, so many must have the higher
    income that the one with the lower, who is then ahead of them all, holds more of the whole than any one of the
    highest did: n with low / (low + n * high) > other_high / (other_low + n * other_high).
    """
    low, high, other_low, other_high = left
    if low < high or other_low == other_high:
        return 1
    return low * (other_high - other_low) // (other_high * (low - high)) + 1
