"""Which changes of its bands mend a rule, so that it evens more than another one."""

from evenedshares.errors import InvalidChanges
from evenedshares.evening import first_broken
from evenedshares.integers import is_within
from evenedshares.limits import MOST_CHANGES
from evenedshares.neighbours import neighbours, ordered_bands
from evenedshares.rules import bands_of, first_below, is_step, is_value, with_band


def mending(one, changes, other=None):
    """Return all least sets of these changes behind which one rule evens more than the other one.

    Each set is the ascending tuple of the indexes of its changes; sets of fewer changes come first, then ascending.
    """
    bands = bands_of(one)
    check_changes(changes, len(bands))
    others = ordered_bands(other)
    found = []
    for chosen in sets_of_indexes(len(changes)):
        # What mends as a part of this set was looked at before it.
        if any([is_part(each, chosen) for each in found]):
            continue
        if mends(turned(bands, changes, chosen), others):
            found.append(chosen)
    return tuple(found)


def check_changes(changes, many):
    """Refuse what are no changes of so many bands."""
    if not isinstance(changes, tuple):
        raise InvalidChanges(None)
    changed = []
    for index, change in enumerate(changes):
        if index == MOST_CHANGES or not is_change(change, many) or change[0] in changed:
            raise InvalidChanges(index)
        changed.append(change[0])


def is_change(change, many):
    """Return whether this is a change of one of so many bands."""
    if not isinstance(change, tuple) or len(change) != 3:
        return False
    index, value, step = change
    return is_within(index, 0, many - 1) and is_value(value) and is_step(step)


def sets_of_indexes(many):
    """Return all sets of indexes below this number, each ascending; smaller ones first, then ascending."""
    found = [()]
    for index in range(many):
        found = found + [(*each, index) for each in found]
    return [each for size, each in sorted([(len(each), each) for each in found])]


def is_part(part, whole):
    """Return whether all of these indexes are among those of the whole."""
    return all([index in whole for index in part])


def turned(bands, changes, chosen):
    """Return these bands behind the changes with the chosen indexes."""
    for at in chosen:
        index, value, step = changes[at]
        bands = with_band(bands, index, value, step)
    return bands


def mends(bands, others):
    """Return whether these are the bands of a rule, and it evens more than that with the others."""
    return first_below(bands) is None and first_broken(neighbours(bands, others)) is None
