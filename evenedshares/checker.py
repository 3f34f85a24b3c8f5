"""The checker of claims: it looks at a claim and at its certificate, whoever made them, and never fails.

Of a value it is asked first which class it has: others might fail when they are compared or measured.
"""

from evenedshares.curves import first_crossing, gives_and_gets, least_gifts, lowest_share
from evenedshares.evening import first_broken
from evenedshares.limits import MOST_INCOME
from evenedshares.neighbours import neighbours
from evenedshares.purses import kinds_behind, kinds_with
from evenedshares.rules import bands_with, first_turn


def accepts(claim, certificate):
    """Return whether this is a claim for the checker, and the certificate is one for it."""
    if not is_tuple(claim) or len(claim) == 0 or not is_text(claim[0]) or claim[0] not in CHECKS:
        return False
    check = CHECKS[claim[0]]
    return check(claim[1:], certificate)


def accepts_more(told, certificate):
    """Return whether the second of two rules keeps order, and the first one evens more."""
    rules = told_rules(told)
    if rules is None or not is_tuple(certificate):
        return False
    bands, others = rules
    return certificate == () and first_turn(others) is None and first_broken(neighbours(bands, others)) is None


def accepts_not_more(told, certificate):
    """Return whether the certificate tells a purse of incomes behind which the first of two rules leaves less even."""
    rules = told_rules(told)
    incomes = told_kinds(certificate)
    if rules is None or incomes is None or incomes[-1][0] > MOST_INCOME:
        return False
    bands, others = rules
    return first_crossing(kinds_behind(bands, incomes), kinds_behind(others, incomes)) is not None


def accepts_even(told, certificate):
    """Return whether the first of two purses is at least as even as the second one."""
    purses = told_purses(told)
    if purses is None or not is_tuple(certificate):
        return False
    kinds, others = purses
    return certificate == () and first_crossing(kinds, others) is None


def accepts_uneven(told, certificate):
    """Return whether the lowest share of the first of two purses is less for the fraction of the certificate."""
    purses = told_purses(told)
    if purses is None or not are_integers(certificate, 2):
        return False
    part, whole = certificate
    if not 0 <= part <= whole or whole < 1:
        return False
    kinds, others = purses
    top, bottom = lowest_share(kinds, part, whole)
    other_top, other_bottom = lowest_share(others, part, whole)
    return top * other_bottom < other_top * bottom


def accepts_gifts(told, certificate):
    """Return whether this sum is the least that leads from the first purse to the second, and the gifts show it."""
    purses = told_purses(told[:2])
    if purses is None or len(told) != 3 or not is_integer(told[2]):
        return False
    kinds, others = purses
    return least_gifts(kinds, others) == told[2] and are_gifts(certificate, gives_and_gets(kinds, others))


def are_gifts(rows, wanted):
    """Return whether these are rows (giver, taker, many), in order, and all give and get in them what is wanted."""
    amounts = [amount for amount, gives, gets in wanted]
    if not is_tuple(rows) or not all([is_gift(row, amounts) for row in rows]):
        return False
    pairs = [(giver, taker) for giver, taker, many in rows]
    if not all([one < other for one, other in zip(pairs, pairs[1:])]):
        return False
    return wanted == [(amount, sum_at(rows, 0, amount), sum_at(rows, 1, amount)) for amount in amounts]


def is_gift(row, amounts):
    """Return whether this is a row (giver, taker, many) of which both have one of these amounts."""
    if not are_integers(row, 3):
        return False
    giver, taker, many = row
    return giver in amounts and taker in amounts and taker < giver and many >= 1


def sum_at(rows, place, amount):
    """Return how many all rows together tell that have this amount at this place."""
    return sum([row[2] for row in rows if row[place] == amount])


def told_rules(texts):
    """Return the bands of both rules with these texts, None if these are no two such texts."""
    if len(texts) != 2 or not all([is_text(text) for text in texts]):
        return None
    rules = [bands_with(text) for text in texts]
    return None if None in rules else rules


def told_purses(texts):
    """Return the kinds of both purses with these texts, None if these are no two such texts."""
    purses = [told_kinds(text) for text in texts]
    return None if None in purses or len(purses) != 2 else purses


def told_kinds(text):
    """Return the kinds of the purse with this text, None if it is the text of none."""
    return kinds_with(text) if is_text(text) else None


def are_integers(value, many):
    """Return whether this is a tuple of so many integers."""
    return is_tuple(value) and len(value) == many and all([is_integer(each) for each in value])


def is_tuple(value):
    """Return whether this is a tuple."""
    return type(value) == tuple


def is_text(value):
    """Return whether this is a string."""
    return type(value) == str


def is_integer(value):
    """Return whether this is an integer, not True or False."""
    return type(value) == int


CHECKS = {
    "more": accepts_more,
    "not more": accepts_not_more,
    "even": accepts_even,
    "uneven": accepts_uneven,
    "gifts": accepts_gifts,
}
