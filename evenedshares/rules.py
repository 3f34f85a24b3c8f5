"""Rules of taxes and benefits: what is left of each income, in hundredths, told in bands."""

from evenedshares.errors import InvalidBands, InvalidNumber, InvalidText, NotARule
from evenedshares.integers import is_within, read_integer
from evenedshares.limits import MOST_BANDS, MOST_INCOME, MOST_START, MOST_STEP, MOST_VALUE


class Rule:
    """A rule: its bands, triples (start, value, step) of integers."""

    def __init__(self, bands):
        if not isinstance(bands, tuple) or len(bands) == 0:
            raise InvalidBands(None)
        wrong = first_wrong(bands)
        if wrong is None:
            wrong = first_below(bands)
        if wrong is not None:
            raise InvalidBands(wrong)
        self._bands = bands

    @classmethod
    def read(cls, text):
        """Return the rule with this text."""
        if not isinstance(text, str):
            raise InvalidText(text)
        bands = bands_with(text)
        if bands is None:
            raise InvalidText(text)
        return cls(bands)

    @property
    def bands(self):
        """The bands, as they were passed."""
        return self._bands

    def left(self, income):
        """Return what the rule leaves of this income, in hundredths."""
        if not is_within(income, 0, MOST_INCOME):
            raise InvalidNumber(income)
        return left_by(self._bands, income)

    def __len__(self):
        return len(self._bands)

    def __str__(self):
        return "\n".join(lines_of(self._bands))

    def __eq__(self, other):
        return isinstance(other, Rule) and self._bands == other._bands


def plain():
    """Return the plain rule, which leaves all."""
    return Rule(((0, 0, 100),))


def keeps_order(rule):
    """Return whether the rule leaves no income less than a lower one."""
    return first_turn(bands_of(rule)) is None


def bands_of(rule):
    """Return the bands of a rule, and refuse what is none."""
    if not isinstance(rule, Rule):
        raise NotARule(rule)
    return rule.bands


def first_wrong(bands):
    """Return the index of the first element that is no band behind those before it, None if there is none."""
    least, most = 0, 0
    for index, band in enumerate(bands):
        if index == MOST_BANDS or not is_band(band, least, most):
            return index
        least, most = band[0] + 1, MOST_START
    return None


def is_band(band, least, most):
    """Return whether this is a band, with a start from least to most."""
    if not isinstance(band, tuple) or len(band) != 3:
        return False
    start, value, step = band
    return is_within(start, least, most) and is_value(value) and is_step(step)


def is_value(value):
    """Return whether this can be the value of a band."""
    return is_within(value, 0, MOST_VALUE)


def is_step(step):
    """Return whether this can be the step of a band."""
    return is_within(step, -MOST_STEP, MOST_STEP)


def first_below(bands):
    """Return the index of the first band that would leave less than 0 of an income, None if there is none."""
    for index, (start, value, step) in enumerate(bands):
        last = last_income(bands, index)
        # A band without end that falls gets below 0, however great its value is.
        if step < 0 and (last is None or value + step * (last - start) < 0):
            return index
    return None


def first_turn(bands):
    """Return the least income of which more is left than of the next one, None if there is none."""
    for index, (start, value, step) in enumerate(bands):
        last = last_income(bands, index)
        # The step of a band for a single income plays no part.
        if step < 0 and last != start:
            return start
        if last is not None and value + step * (last - start) > bands[index + 1][1]:
            return last
    return None


def last_income(bands, index):
    """Return the last income of the band with this index, None if it has no end."""
    if index + 1 == len(bands):
        return None
    return bands[index + 1][0] - 1


def left_by(bands, income):
    """Return what these bands leave of an income, however great it is."""
    start, value, step = [band for band in bands if band[0] <= income][-1]
    return value + step * (income - start)


def with_band(bands, index, value, step):
    """Return these bands, of which the one with this index has this value and this step."""
    return (*bands[:index], (bands[index][0], value, step), *bands[index + 1:])


def lines_of(bands):
    """Return the lines of the text of a rule with these bands."""
    return [f"from {start} value {value} step {step}" for start, value, step in bands]


def bands_with(text):
    """Return the bands of the rule with this text, None if it is the text of none."""
    lines = text.split("\n")
    bands = tuple([band_of(line) for line in lines])
    if first_wrong(bands) is not None or first_below(bands) is not None:
        return None
    # The lines were read leniently: other words and needless zeros show only here.
    if lines_of(bands) != lines:
        return None
    return bands


def band_of(line):
    """Return the three integers of a line of a text as a tuple, None if it has other than six words."""
    words = line.split(" ")
    if len(words) != 6:
        return None
    return read_integer(words[1]), read_integer(words[3]), read_integer(words[5])
