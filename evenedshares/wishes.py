"""Wishes of a book: their four forms, and whether they hold."""

from evenedshares.errors import InvalidKinds
from evenedshares.evening import evens_more
from evenedshares.integers import is_integer
from evenedshares.leaving import leaves_more
from evenedshares.limits import MOST_INCOME
from evenedshares.purses import Purse, taken
from evenedshares.rules import keeps_order

LETTERS = "abcdefghijklmnopqrstuvwxyz"
DIGITS = "0123456789"
LONGEST_NAME = 8


def is_name(value):
    """Return whether this value is a name."""
    if not isinstance(value, str) or not 1 <= len(value) <= LONGEST_NAME or value[0] not in LETTERS:
        return False
    return all([sign in LETTERS or sign in DIGITS for sign in value])


def is_wish(wish):
    """Return whether this is a wish, whatever rules there are."""
    if not isinstance(wish, tuple) or len(wish) == 0 or not isinstance(wish[0], str):
        return False
    word = wish[0]
    if word == "evens":
        return len(wish) == 2 and is_name(wish[1])
    if word in ("more", "leaves"):
        return len(wish) == 3 and is_name(wish[1]) and is_name(wish[2])
    return word == "takes" and len(wish) == 4 and is_name(wish[1]) and are_incomes(wish[2]) and is_integer(wish[3])


def are_incomes(kinds):
    """Return whether these are the kinds of a purse of incomes."""
    try:
        purse = Purse(kinds)
    except InvalidKinds:
        return False
    return purse.kinds[-1][0] <= MOST_INCOME


def names_in(wish):
    """Return the names of the rules of this wish, in their order."""
    if wish[0] in ("more", "leaves"):
        return wish[1:]
    return wish[1:2]


def first_failing(wishes, rules):
    """Return the index of the first wish that does not hold with these rules, None if all hold."""
    for index, wish in enumerate(wishes):
        if not holds(wish, rules):
            return index
    return None


def holds(wish, rules):
    """Return whether this wish holds with these rules under their names."""
    word, rule = wish[0], rules[wish[1]]
    if word == "evens":
        return evens_more(rule)
    if word == "takes":
        return taken(rule, Purse(wish[2])) >= wish[3]
    other = rules[wish[2]]
    if word == "leaves":
        return leaves_more(rule, other)
    return keeps_order(other) and evens_more(rule, other)
