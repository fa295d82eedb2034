"""What's set, kept as bytes: number by number, the lowest byte first, and behind all of them their sum."""

from softhear.bounds import (LEAST_GAIN, LEAST_WAY, MOST_AMOUNT, MOST_DELAY, MOST_GAIN, MOST_LESSEN, MOST_RATE,
                             MOST_STEP, MOST_WAY, taps_fit)
from softhear.pair import BANDS, LOUDNESSES, TAPS
from softhear.sixteen import bytes_of, within

ALL_TAPS = 128
ALL_GAINS = 128
EAR_NUMBERS = 135
SUM_BYTES = 2


def forms():
    """For each number, in the order in which they are kept: its bytes, the least and the greatest it may be."""
    amount = (2, 0, MOST_AMOUNT)
    both = [(2, -32768, 32767)] * ALL_TAPS + [amount, amount, (1, 0, 1), (1, 0, MOST_LESSEN)]
    ear = [(1, LEAST_GAIN, MOST_GAIN)] * ALL_GAINS
    ear.extend([(1, 0, MOST_DELAY), amount, (1, LEAST_WAY, MOST_WAY), (1, 0, MOST_RATE)])
    ear.extend([amount, (2, 0, MOST_STEP), amount])
    return both + ear + ear


def all_bytes(pair):
    row = []
    for number, form in zip(all_numbers(pair), forms()):
        row.extend(bytes_of(number, form[0]))
    return row + sum_bytes(row)


def sum_bytes(row):
    return bytes_of(sum(row), SUM_BYTES)


def sum_is_right(row):
    return row[-SUM_BYTES:] == sum_bytes(row[:-SUM_BYTES])


def all_numbers(pair):
    row = []
    for band in pair.taps:
        row.extend(band)
    row.extend([pair.attack, pair.release, pair.coupled, pair.lessen])
    for ear in pair.ears:
        row.extend(ear_numbers(ear))
    return row


def ear_numbers(ear):
    row = []
    for band in ear.gains:
        row.extend(band)
    return row + [ear.delay, ear.part, ear.way, ear.rate, ear.most, ear.step, ear.strength]


def numbers_from(row):
    numbers = []
    at = 0
    for form in forms():
        end = at + form[0]
        numbers.append(number_from(row[at:end], form[1]))
        at = end
    return numbers


def number_from(row, least):
    """The number of these bytes, which has a sign only where it may be below 0."""
    number = 0
    for x in reversed(row):
        number = 256 * number + x
    if least < 0 and row[-1] >= 128:
        return number - (1 << (8 * len(row)))
    return number


def can_be_set(numbers):
    if not all([within(x, form[1], form[2]) for x, form in zip(numbers, forms())]):
        return False
    return all([taps_fit(band) for band in by_bands(numbers[:ALL_TAPS], TAPS)])


def by_bands(row, how_many):
    return [row[how_many * band:how_many * band + how_many] for band in range(BANDS)]


def set_numbers(pair, numbers):
    pair.taps = by_bands(numbers[:ALL_TAPS], TAPS)
    pair.attack = numbers[ALL_TAPS]
    pair.release = numbers[ALL_TAPS + 1]
    pair.coupled = numbers[ALL_TAPS + 2]
    pair.lessen = numbers[ALL_TAPS + 3]
    start = ALL_TAPS + 4
    for ear in pair.ears:
        set_ear_numbers(ear, numbers[start:start + EAR_NUMBERS])
        start = start + EAR_NUMBERS


def set_ear_numbers(ear, numbers):
    ear.gains = by_bands(numbers[:ALL_GAINS], LOUDNESSES)
    ear.delay = numbers[ALL_GAINS]
    ear.part = numbers[ALL_GAINS + 1]
    ear.way = numbers[ALL_GAINS + 2]
    ear.rate = numbers[ALL_GAINS + 3]
    ear.most = numbers[ALL_GAINS + 4]
    ear.step = numbers[ALL_GAINS + 5]
    ear.strength = numbers[ALL_GAINS + 6]
