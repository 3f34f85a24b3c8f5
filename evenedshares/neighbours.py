"""Neighbouring incomes, and whether they break it that one rule evens more than another one."""

from evenedshares.errors import OrderTurned
from evenedshares.rules import bands_of, first_turn, left_by, plain


def ordered_bands(other):
    """Return the bands of a rule that keeps order, and refuse what is none; None is the plain rule."""
    bands = other_bands(other)
    turned = first_turn(bands)
    if turned is not None:
        raise OrderTurned(turned)
    return bands


def other_bands(other):
    """Return the bands of a rule, and refuse what is none; None is the plain rule."""
    if other is None:
        return plain().bands
    return bands_of(other)


def neighbours(bands, others):
    """Return pairs (income, left), ascending, that stand for all neighbouring incomes.

    Of an income x and x + 1 the bands and the others leave left: (f(x), f(x + 1), g(x), g(x + 1)). All neighbouring
    incomes from x on, up to the next such pair, are alike: both f and g are straight there, f by the step s and g by
    the step t, so that f(x + 1) - f(x) = s, g(x + 1) - g(x) = t and f(x + 1) * g(x) - f(x) * g(x + 1) = s * g(x) -
    t * f(x) are the same for all of them.
    """
    starts = [start for start, value, step in bands + others]
    seams = [start - 1 for start in starts if start > 0]
    return [(income, left_by_both(bands, others, income)) for income in sorted(set(starts + seams))]


def left_by_both(bands, others, income):
    """Return what both leave of this income and of the next one."""
    low, high = left_by(bands, income), left_by(bands, income + 1)
    return low, high, left_by(others, income), left_by(others, income + 1)


def breaks(left):
    """Return whether neighbouring incomes break it, of which this is left."""
    low, high, other_low, other_high = left
    if other_low == other_high:
        return low != high
    return low > high or low * other_high < high * other_low
