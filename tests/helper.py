"""Calls written as the list that the document tells, and their answers read back."""

from softhear.aids import answers

LEAST = -2147483648
MOST = 2147483647


def row_of(first, length=16):
    """The numbers given, then zeros."""
    return list(first) + [0] * (length - len(first))


# A band of PASS has the turned numbers as they are, if from -16383 to 16384:
# (32767 x + 16384) / 32768 = x + (16384 - x) / 32768.
PASS = row_of([32767])
# A band of OPPOSITE has their opposites: (-32768 x + 16384) / 32768 = -x; of -32768 it is 32767, held.
OPPOSITE = row_of([-32768])
# A band of HALF has (16384 x + 16384) / 32768 = (x + 1) / 2.
HALF = row_of([16384])
QUIET = [0] * 64


def begin():
    return [0]


def taps(band, c):
    return [1, band, len(c)] + c


def times(attack, release):
    return [2, attack, release]


def couple(on, lessen):
    return [3, on, lessen]


def gains(ear, band, g):
    return [4, ear, band, len(g)] + g


def flat(ear, band, g):
    return [5, ear, band, g]


def trim(ear, add):
    return [6, ear, len(add)] + add


def turn(ear, delay, part):
    return [7, ear, delay, part]


def echo(ear, way, rate):
    return [8, ear, way, rate]


def limit(ear, most):
    return [9, ear, most]


def tone(ear, step, strength):
    return [10, ear, step, strength]


def sound(*blocks):
    return sound_of(len(blocks), joined(blocks))


def sound_of(n, numbers):
    return [11, n, len(numbers)] + numbers


def block(left=(), left_back=(), right=(), right_back=()):
    """64 numbers; of what isn't given, zeros."""
    rows = [row_of(left), row_of(left_back), row_of(right), row_of(right_back)]
    return joined(zip(*rows))


def at(places, length=16):
    """A row of zeros, but for the numbers at these places."""
    row = [0] * length
    for place, number in places.items():
        row[place] = number
    return row


def blocks_of(row):
    """A long row of the left ear's front numbers, as blocks."""
    return [block(row[start:start + 16]) for start in range(0, len(row), 16)]


def joined(rows):
    return [number for row in rows for number in row]


def ask(*calls):
    """Each call's answer, as a list."""
    told = answers(joined(calls))
    split = []
    start = 0
    while start < len(told):
        end = start + 1 + told[start]
        split.append(told[start + 1:end])
        start = end
    if start != len(told):
        raise AssertionError("an answer is shorter than its count says")
    if len(split) != len(calls):
        raise AssertionError("not one answer for each call")
    return split


def both(*calls):
    """What the last call, sound, puts out: the left ear's row, the right ear's."""
    told = ask(*calls)[-1]
    if told[0] != 0:
        raise AssertionError(f"sound answered {told}")
    return told[1::2], told[2::2]


def left(*calls):
    return both(*calls)[0]


def right(*calls):
    return both(*calls)[1]
