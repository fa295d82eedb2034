"""How far what is set may go."""

from softhear.pair import BANDS
from softhear.sixteen import within

# Of attack, release, part, limit and strength.
MOST_AMOUNT = 32767
MOST_LESSEN = 64
LEAST_GAIN = -64
MOST_GAIN = 63
MOST_DELAY = 7
LEAST_WAY = 16
MOST_WAY = 255
MOST_RATE = 255
MOST_STEP = 65535
# Of the sizes of a band's taps together.
MOST_TAPS = 65535


def is_ear(x):
    return within(x, 0, 1)


def is_band(x):
    return within(x, 0, BANDS - 1)


def is_gain(x):
    return within(x, LEAST_GAIN, MOST_GAIN)


def is_amount(x):
    return within(x, 0, MOST_AMOUNT)


def taps_fit(row):
    return sum([abs(x) for x in row]) <= MOST_TAPS
