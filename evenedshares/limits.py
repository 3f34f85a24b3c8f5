"""The greatest numbers and lengths that the document allows."""

MOST_BANDS = 8
MOST_STEP = 1000
MOST_START = 10 ** 29
MOST_INCOME = 10 ** 30
MOST_VALUE = 10 ** 32
MOST_KINDS = 30
MOST_AMOUNT = 10 ** 36
# Two factors, because an exponent is at most 64 in this program.
MOST_COUNT = 10 ** 36 * 10 ** 36
MOST_CHANGES = 6
