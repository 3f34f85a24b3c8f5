"""The lowest shares of purses: which purse is more even, and what must be given to get from one to another."""

from math import gcd

from evenedshares.errors import InvalidNumber
from evenedshares.integers import is_within
from evenedshares.purses import kinds_of

# The greatest numbers that tell a fraction; two factors, because an exponent is at most 64 in this program.
MOST_PART = 10 ** 37 * 10 ** 38


def held(purse, part, whole):
    """Return the lowest share for the fraction part / whole as a pair of integers in least terms."""
    kinds = kinds_of(purse)
    if not is_within(part, 0, MOST_PART):
        raise InvalidNumber(part)
    if not is_within(whole, max(1, part), MOST_PART):
        raise InvalidNumber(whole)
    top, bottom = lowest_share(kinds, part, whole)
    return in_least_terms(top, bottom)


def is_as_even(first, second):
    """Return whether the first purse is at least as even as the second one."""
    return crossing(first, second) is None


def order(first, second):
    """Return which purse is more even: the word "same", "more", "less" or "neither"."""
    kinds, others = kinds_of(first), kinds_of(second)
    first_is = first_crossing(kinds, others) is None
    second_is = first_crossing(others, kinds) is None
    if first_is and second_is:
        return "same"
    if first_is:
        return "more"
    if second_is:
        return "less"
    return "neither"


def crossing(first, second):
    """Return a fraction for which the lowest share of the first purse is less, None if there is none."""
    kinds, others = kinds_of(first), kinds_of(second)
    return first_crossing(kinds, others)


def unevenness(purse):
    """Return the unevenness as a pair of integers in least terms."""
    people, total, apart = 0, 0, 0
    for amount, count in kinds_of(purse):
        # Each person of this kind is apart from all those of the kinds before it.
        apart += (amount * people - total) * count
        people += count
        total += amount * count
    if total == 0:
        return 0, 1
    return in_least_terms(apart, people * total)


def gifts(first, second):
    """Return the least sum of gifts that lead from the first purse to the second one, None if none do."""
    kinds, others = kinds_of(first), kinds_of(second)
    return least_gifts(kinds, others)


def lowest_share(kinds, part, whole):
    """Return the lowest share for the fraction part / whole as a pair of integers."""
    people = ends_of(kinds)[-1]
    total = total_of(kinds)
    if total == 0:
        return part, whole
    # Each person counts as this whole number of pieces, so that none of them is divided.
    pieces = part * people
    reached = 0
    for amount, count in kinds:
        many = min(pieces, count * whole)
        reached += amount * many
        pieces -= many
    return reached, total * whole


def first_crossing(kinds, others):
    """Return the least fraction at an end of these kinds for which their lowest share is less, None if there is none.

    Between two ends the share of these kinds is straight, and that of the others bends upwards only. So theirs is
    furthest above at an end, if it is above anywhere.
    """
    ends = ends_of(kinds)
    whole = ends[-1]
    for part in ends:
        top, bottom = lowest_share(kinds, part, whole)
        other_top, other_bottom = lowest_share(others, part, whole)
        if top * other_bottom < other_top * bottom:
            return part, whole
    return None


def least_gifts(kinds, others):
    """Return the least sum of gifts that lead from these kinds to the others, None if none do."""
    if ends_of(kinds)[-1] != ends_of(others)[-1] or total_of(kinds) != total_of(others):
        return None
    if first_crossing(others, kinds) is not None:
        return None
    return sum([gives for amount, gives, gets in gives_and_gets(kinds, others)])


def gives_and_gets(kinds, others):
    """Return for each kind a triple (amount, gives, gets); the other kinds have as many people.

    All with this amount together give what they have more than at their places in the others, and get what they have
    less there.
    """
    found = []
    places = side_by_side(kinds, others)
    for amount, count in kinds:
        apart = [((amount - there) * many) for here, there, many in places if here == amount]
        gives = sum([more for more in apart if more > 0])
        found.append((amount, gives, gives - sum(apart)))
    return found


def side_by_side(kinds, others):
    """Return triples (amount, amount there, many): all people of both by their places; both have as many."""
    found = []
    place = 0
    for end in sorted(set(ends_of(kinds) + ends_of(others))):
        found.append((amount_at(kinds, place), amount_at(others, place), end - place))
        place = end
    return found


def total_of(kinds):
    """Return what all people of these kinds have together."""
    return sum([amount * count for amount, count in kinds])


def ends_of(kinds):
    """Return for each kind how many people have its amount or less."""
    ends = []
    people = 0
    for amount, count in kinds:
        people += count
        ends.append(people)
    return ends


def amount_at(kinds, place):
    """Return the amount of the one of whom so many people are ahead from below."""
    return [amount for (amount, count), end in zip(kinds, ends_of(kinds)) if end > place][0]


def in_least_terms(top, bottom):
    """Return this fraction as a pair of integers without a common divisor above 1."""
    common = gcd(top, bottom)
    return top // common, bottom // common
