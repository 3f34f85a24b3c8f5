"""Answers as claims for the checker, each with a certificate that it accepts."""

from evenedshares.curves import crossing, gifts, gives_and_gets
from evenedshares.evening import contrary
from evenedshares.rules import plain


def certify_evening(one, other=None):
    """Return a claim whether one rule evens more than the other one, and its certificate; None is the plain rule."""
    shown = contrary(one, other)
    texts = str(one), str(plain() if other is None else other)
    if shown is None:
        return ("more", *texts), ()
    return ("not more", *texts), str(shown)


def certify_order(first, second):
    """Return a claim whether the first purse is at least as even as the second one, and its certificate."""
    crossed = crossing(first, second)
    texts = str(first), str(second)
    if crossed is None:
        return ("even", *texts), ()
    return ("uneven", *texts), crossed


def certify_gifts(first, second):
    """Return a claim of the least sum of gifts from the first purse to the second one, and its certificate.

    None is returned if there are no such gifts.
    """
    least = gifts(first, second)
    if least is None:
        return None
    rows = rows_of_gifts(gives_and_gets(first.kinds, second.kinds))
    return ("gifts", str(first), str(second), least), rows


def rows_of_gifts(wanted):
    """Return rows (giver, taker, many), in order, in which all give and get what they are to.

    Who may be given to by some may be given to by all with greater amounts, too. So nobody is left over if each
    gives to whoever still lacks something, those with the lowest amounts giving first.
    """
    rows = []
    lacking = []
    for giver, gives, gets in wanted:
        still = []
        for taker, lacks in lacking:
            many = min(gives, lacks)
            if many > 0:
                rows.append((giver, taker, many))
            gives -= many
            still.append((taker, lacks - many))
        lacking = still + [(giver, gets)]
    return tuple(rows)
