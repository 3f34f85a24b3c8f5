"""Of which incomes one rule leaves more than another one."""

from evenedshares.rules import bands_of, left_by


def leaves_more(one, other):
    """Return whether the other rule leaves more of no income."""
    bands, others = bands_of(one), bands_of(other)
    return stretches_above(others, bands) == ()


def above(one, other):
    """Return all stretches (first, last) of incomes of which one rule leaves more, ascending, last None without end."""
    bands, others = bands_of(one), bands_of(other)
    return stretches_above(bands, others)


def stretches_above(bands, others):
    """Return all stretches (first, last) of incomes of which the bands leave more than the others."""
    found = []
    for first, last in parts_above(bands, others):
        # A stretch may go on over the end of a band; that of the last band alone has no end.
        if found and found[-1][1] + 1 == first:
            found[-1] = found[-1][0], last
        else:
            found.append((first, last))
    return tuple(found)


def parts_above(bands, others):
    """Return such stretches, each of which ends at the latest where a band of either rule ends."""
    starts = sorted(set([start for start, value, step in bands + others]))
    ends = [start - 1 for start in starts[1:]] + [None]
    found = []
    for first, last in zip(starts, ends):
        ahead = ahead_at(bands, others, first)
        part = part_above(first, last, ahead, ahead_at(bands, others, first + 1) - ahead)
        if part is not None:
            found.append(part)
    return found


def ahead_at(bands, others, income):
    """Return how much more these bands leave of this income than the others."""
    return left_by(bands, income) - left_by(others, income)


def part_above(first, last, ahead, growth):
    """Return the part of the incomes from first to last at which a straight line is above 0, None if there is none.

    The line is ahead at the first one, and grows by growth with each income; growth means nothing for a single one.
    """
    if ahead > 0:
        if growth >= 0:
            return first, last
        end = first + (ahead - 1) // -growth
        return first, (end if last is None else min(end, last))
    if growth <= 0:
        return None
    begin = first + -ahead // growth + 1
    if last is not None and last < begin:
        return None
    return begin, last
