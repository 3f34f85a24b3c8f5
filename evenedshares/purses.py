"""Purses: distributions of amounts, told in kinds, and what they are behind a rule."""

from evenedshares.errors import InvalidKinds, InvalidText, NotAPurse, TooMuch
from evenedshares.integers import is_within, read_integer
from evenedshares.limits import MOST_AMOUNT, MOST_COUNT, MOST_INCOME, MOST_KINDS
from evenedshares.rules import bands_of, left_by


class Purse:
    """A purse: its kinds, pairs (amount, count) of integers."""

    def __init__(self, kinds):
        if not isinstance(kinds, tuple) or len(kinds) == 0:
            raise InvalidKinds(None)
        wrong = first_wrong(kinds)
        if wrong is not None:
            raise InvalidKinds(wrong)
        self._kinds = kinds

    @classmethod
    def read(cls, text):
        """Return the purse with this text."""
        if not isinstance(text, str):
            raise InvalidText(text)
        kinds = kinds_with(text)
        if kinds is None:
            raise InvalidText(text)
        return cls(kinds)

    @property
    def kinds(self):
        """The kinds, as they were passed."""
        return self._kinds

    @property
    def people(self):
        """How many people there are."""
        return sum([count for amount, count in self._kinds])

    @property
    def total(self):
        """What all people have together."""
        return sum([amount * count for amount, count in self._kinds])

    def __len__(self):
        return len(self._kinds)

    def __str__(self):
        return "\n".join(lines_of(self._kinds))

    def __eq__(self, other):
        return isinstance(other, Purse) and self._kinds == other._kinds


def behind(rule, purse):
    """Return the purse behind the rule, of a purse of incomes."""
    bands = bands_of(rule)
    kinds = kinds_behind(bands, incomes_of(purse))
    for left, count in kinds:
        if count > MOST_COUNT:
            raise TooMuch(count)
    return Purse(kinds)


def taken(rule, purse):
    """Return what the rule takes of a purse of incomes in all, in hundredths."""
    bands = bands_of(rule)
    return sum([(100 * income - left_by(bands, income)) * count for income, count in incomes_of(purse)])


def kinds_behind(bands, incomes):
    """Return the kinds behind these bands, of kinds of incomes, however many people are put together."""
    counts = {}
    for income, count in incomes:
        left = left_by(bands, income)
        counts[left] = counts.get(left, 0) + count
    return tuple([(left, counts[left]) for left in sorted(counts)])


def kinds_of(purse):
    """Return the kinds of a purse, and refuse what is none."""
    if not isinstance(purse, Purse):
        raise NotAPurse(purse)
    return purse.kinds


def incomes_of(purse):
    """Return the kinds of a purse of incomes, and refuse what is none."""
    kinds = kinds_of(purse)
    greatest = kinds[-1][0]
    if greatest > MOST_INCOME:
        raise TooMuch(greatest)
    return kinds


def first_wrong(kinds):
    """Return the index of the first element that is no kind behind those before it, None if there is none."""
    least = 0
    for index, kind in enumerate(kinds):
        if index == MOST_KINDS or not is_kind(kind, least):
            return index
        least = kind[0] + 1
    return None


def is_kind(kind, least):
    """Return whether this is a kind, with an amount from least on."""
    if not isinstance(kind, tuple) or len(kind) != 2:
        return False
    amount, count = kind
    return is_within(amount, least, MOST_AMOUNT) and is_within(count, 1, MOST_COUNT)


def lines_of(kinds):
    """Return the lines of the text of a purse with these kinds."""
    return [f"{count} of {amount}" for amount, count in kinds]


def kinds_with(text):
    """Return the kinds of the purse with this text, None if it is the text of none."""
    lines = text.split("\n")
    kinds = tuple([kind_of(line) for line in lines])
    # The lines were read leniently: another word and needless zeros show only in the lines as they should be.
    if first_wrong(kinds) is not None or lines_of(kinds) != lines:
        return None
    return kinds


def kind_of(line):
    """Return the two integers of a line of a text as a tuple, None if it has other than three words."""
    words = line.split(" ")
    if len(words) != 3:
        return None
    return read_integer(words[2]), read_integer(words[0])
