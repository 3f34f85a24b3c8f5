"""Claims and certificates, judged person by person and income by income, for small numbers."""

import re
from collections import Counter
from fractions import Fraction

import onebyone

NUMBER = "(0|[1-9][0-9]*)"
BAND = re.compile(f"from {NUMBER} value {NUMBER} step (0|-?[1-9][0-9]*)")
KIND = re.compile(f"{NUMBER} of {NUMBER}")
# Beyond all starts of small rules nothing is different any more.
SMALL_END = 60


def rule_with(text):
    """The bands of the rule with this text, None if it is none; for starts far below the end."""
    if type(text) is not str:
        return None
    lines = [BAND.fullmatch(line) for line in text.split("\n")]
    if None in lines or len(lines) > 8:
        return None
    bands = tuple(tuple(int(number) for number in line.groups()) for line in lines)
    starts = [start for start, value, step in bands]
    if starts[0] != 0 or starts != sorted(set(starts)) or any(abs(step) > 1000 for start, value, step in bands):
        return None
    if bands[-1][2] < 0 or any(onebyone.left(bands, income) < 0 for income in range(SMALL_END)):
        return None
    return bands


def purse_with(text):
    """The kinds of the purse with this text, None if it is none; for few people."""
    if type(text) is not str:
        return None
    lines = [KIND.fullmatch(line) for line in text.split("\n")]
    if None in lines or len(lines) > 30:
        return None
    kinds = tuple((int(line.group(2)), int(line.group(1))) for line in lines)
    amounts = [amount for amount, count in kinds]
    if amounts != sorted(set(amounts)) or any(count == 0 for amount, count in kinds):
        return None
    return kinds


def keeps_order(bands):
    return all(onebyone.left(bands, income) <= onebyone.left(bands, income + 1) for income in range(SMALL_END))


def is_true(claim):
    """Whether the claim holds, if it is one; what is said of all purses is looked at income by income.

    None if that does not tell: where the second rule turns order, a purse shows that the first does not even more.
    """
    word, *told = claim
    if word in ("more", "not more"):
        bands, others = rule_with(told[0]), rule_with(told[1])
        if not keeps_order(others):
            return False if word == "more" else None
        return (onebyone.breaking(bands, others, SMALL_END) is None) == (word == "more")
    kinds, others = purse_with(told[0]), purse_with(told[1])
    if word == "gifts":
        return onebyone.gifts(kinds, others) == told[2]
    return onebyone.as_even(kinds, others) == (word == "even")


def as_even_behind(bands, others, kinds):
    return onebyone.as_even(onebyone.behind(bands, kinds), onebyone.behind(others, kinds))


def is_claim(claim):
    """Whether this is a claim for the checker."""
    if type(claim) is not tuple or len(claim) not in (3, 4) or type(claim[0]) is not str:
        return False
    read = {"more": rule_with, "not more": rule_with, "even": purse_with, "uneven": purse_with, "gifts": purse_with}
    if claim[0] not in read or len(claim) != (4 if claim[0] == "gifts" else 3):
        return False
    if claim[0] == "gifts" and (type(claim[3]) is not int or claim[3] < 0):
        return False
    return all(read[claim[0]](text) is not None for text in claim[1:3])


def accepts(claim, certificate):
    """What the checker is to say."""
    if not is_claim(claim):
        return False
    word, *told = claim
    if word in ("more", "even"):
        return type(certificate) is tuple and len(certificate) == 0 and is_true(claim)
    if word == "not more":
        shown = purse_with(certificate)
        return shown is not None and not as_even_behind(rule_with(told[0]), rule_with(told[1]), shown)
    kinds, others = purse_with(told[0]), purse_with(told[1])
    if word == "uneven":
        if not numbers(certificate, 2) or not 0 <= certificate[0] <= certificate[1] or certificate[1] < 1:
            return False
        fraction = Fraction(*certificate)
        return onebyone.share(kinds, fraction) < onebyone.share(others, fraction)
    return is_true(claim) and are_gifts(kinds, others, told[2], certificate)


def numbers(value, many):
    return type(value) is tuple and len(value) == many and all(type(each) is int for each in value)


def are_gifts(kinds, others, least, rows):
    """Whether all give and get in these rows what they have more and less than at their places."""
    if type(rows) is not tuple or not all(numbers(row, 3) for row in rows):
        return False
    amounts = [amount for amount, count in kinds]
    pairs = [row[:2] for row in rows]
    if pairs != sorted(set(pairs)) or sum(row[2] for row in rows) != least:
        return False
    for giver, taker, many in rows:
        if giver not in amounts or taker not in amounts or taker >= giver or many < 1:
            return False
    given, got = Counter(), Counter()
    for here, there in zip(onebyone.persons(kinds), onebyone.persons(others)):
        given[here] += max(0, here - there)
        got[here] += max(0, there - here)
    for giver, taker, many in rows:
        given[giver] -= many
        got[taker] -= many
    return not any(given.values()) and not any(got.values())
