"""What the document defines, reckoned person by person and income by income, for small numbers."""

import itertools
from fractions import Fraction
from math import lcm

from evenedshares.rules import Rule


def persons(kinds):
    """The amounts of all people, the lowest first."""
    return [amount for amount, count in kinds for _ in range(count)]


def share(kinds, fraction):
    """The lowest share for this fraction of the people."""
    amounts = persons(kinds)
    if sum(amounts) == 0:
        return Fraction(fraction)
    people = fraction * len(amounts)
    whole = int(people)
    held = sum(amounts[:whole], Fraction(0))
    if people > whole:
        held += (people - whole) * amounts[whole]
    return held / sum(amounts)


def as_even(kinds, others):
    """Whether no lowest share is less; both are straight between the fractions that are looked at."""
    steps = lcm(len(persons(kinds)), len(persons(others)))
    fractions = [Fraction(step, steps) for step in range(steps + 1)]
    return all(share(kinds, fraction) >= share(others, fraction) for fraction in fractions)


def unevenness(kinds):
    amounts = persons(kinds)
    if sum(amounts) == 0:
        return Fraction(0)
    apart = sum(abs(one - other) for one, other in itertools.combinations(amounts, 2))
    return Fraction(apart, len(amounts) * sum(amounts))


def gifts(kinds, others):
    amounts, there = persons(kinds), persons(others)
    if len(amounts) != len(there) or sum(amounts) != sum(there) or not as_even(others, kinds):
        return None
    return sum(max(0, one - other) for one, other in zip(amounts, there))


def left(bands, income):
    """What these bands leave of an income."""
    found = None
    for start, value, step in bands:
        if start <= income:
            found = value + step * (income - start)
    return found


def behind(bands, kinds):
    """The kinds behind these bands, of kinds of incomes."""
    amounts = sorted(left(bands, amount) for amount in persons(kinds))
    return tuple((amount, len(list(group))) for amount, group in itertools.groupby(amounts))


def breaks(bands, others, income):
    """Whether this income and the next one break it."""
    low, high = left(bands, income), left(bands, income + 1)
    other_low, other_high = left(others, income), left(others, income + 1)
    if other_low == other_high:
        return low != high
    assert other_low < other_high
    return low > high or low * other_high < high * other_low


def breaking(bands, others, end):
    """The least of the incomes below the end that breaks it."""
    return next((income for income in range(end) if breaks(bands, others, income)), None)


def windows(bands, others, end):
    """All windows, as the incomes below the end show them."""
    found = []
    first = 0
    for income in range(end):
        if breaks(bands, others, income):
            if income > first:
                found.append((first, income))
            first = income + 1
    if first < end:
        found.append((first, None))
    return tuple(found)


def lifted(bands, lump):
    """The bands that leave so many hundredths more of each income."""
    return tuple((start, value + lump, step) for start, value, step in bands)


def purses(most_people, most_amount):
    """The kinds of all purses of so many people at most, with amounts up to this one."""
    for people in range(1, most_people + 1):
        for amounts in itertools.combinations_with_replacement(range(most_amount + 1), people):
            yield tuple((amount, len(list(group))) for amount, group in itertools.groupby(amounts))


def some_bands(chance, most_bands, most_start, most_value, most_step, ordered=False):
    """Bands of a rule that chance makes, of one that keeps order if this is asked."""
    many = chance.randint(1, min(most_bands, most_start))
    starts = [0] + sorted(distinct(chance, many - 1, most_start))
    bands = []
    before = 0
    for start, end in zip(starts, starts[1:] + [None]):
        value = chance.randint(0, most_value)
        step = chance.randint(-most_step, most_step)
        if ordered:
            value, step = min(before + chance.choice((0, value)), most_value), abs(step)
            if value < before:
                break
        if end is None:
            step = abs(step)
        elif step < 0:
            # As steep a fall as leaves nothing below 0.
            step = max(step, -(value // max(1, end - 1 - start)))
        bands.append((start, value, step))
        before = value + step * ((end or start + 1) - 1 - start)
    return Rule(tuple(bands)).bands


def distinct(chance, many, most):
    """So many numbers from 1 to the greatest one, no two the same."""
    found = {}
    while len(found) < many:
        found[chance.randint(1, most)] = True
    return list(found)


def evens_by_view(bands, others, view, end):
    """Whether no income below the end breaks it when both leave so many hundredths more."""
    return breaking(lifted(bands, view), lifted(others, view), end) is None


def evens_differences(bands, others, end):
    """Whether each difference below the end is at least 0 and at most that of the others."""
    return all(0 <= left(bands, income + 1) - left(bands, income) <= left(others, income + 1) - left(others, income)
               for income in range(end))


def below_the_mean(kinds):
    """For each number of people, by how much the lowest of them are below the mean of all, together."""
    amounts = persons(kinds)
    mean = Fraction(sum(amounts), len(amounts))
    return [many * mean - sum(amounts[:many]) for many in range(len(amounts) + 1)]


def above(bands, others, end):
    """All stretches of incomes of which the bands leave more, as the incomes below the end show them."""
    found = []
    first = None
    for income in range(end):
        if left(bands, income) > left(others, income):
            first = income if first is None else first
        elif first is not None:
            found.append((first, income - 1))
            first = None
    return tuple(found) + (() if first is None else ((first, None),))


def taken(bands, kinds):
    """What the bands take of all people together."""
    return sum(100 * amount - left(bands, amount) for amount in persons(kinds))
