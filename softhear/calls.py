"""The calls on a pair: each takes the pair, the call's whole numbers and its rows, and answers a list."""

from softhear.hearing import heard_block
from softhear.pair import BANDS, LEAST_GAIN, LOUDNESSES, MOST_GAIN
from softhear.sixteen import clamped, within

DONE = 0
OUT_OF_RANGE = -2
NOT_TAKEN = -3

BLOCK = 64


def is_ear(x):
    return within(x, 0, 1)


def is_band(x):
    return within(x, 0, BANDS - 1)


def is_gain(x):
    return within(x, LEAST_GAIN, MOST_GAIN)


def is_amount(x):
    return within(x, 0, 32767)


def begin(pair, whole, rows):
    pair.renew()
    return [DONE]


def taps(pair, whole, rows):
    band = whole[0]
    if not is_band(band):
        return [OUT_OF_RANGE]
    if sum([abs(x) for x in rows[0]]) > 65535:
        return [NOT_TAKEN]
    pair.taps[band] = rows[0]
    return [DONE]


def times(pair, whole, rows):
    if not (is_amount(whole[0]) and is_amount(whole[1])):
        return [OUT_OF_RANGE]
    pair.attack = whole[0]
    pair.release = whole[1]
    return [DONE]


def couple(pair, whole, rows):
    if not (within(whole[0], 0, 1) and within(whole[1], 0, 64)):
        return [OUT_OF_RANGE]
    pair.coupled = whole[0]
    pair.lessen = whole[1]
    return [DONE]


def gains(pair, whole, rows):
    if not (is_ear(whole[0]) and is_band(whole[1])):
        return [OUT_OF_RANGE]
    if not all([is_gain(x) for x in rows[0]]):
        return [NOT_TAKEN]
    ear = pair.ears[whole[0]]
    ear.gains[whole[1]] = rows[0]
    return [DONE]


def flat(pair, whole, rows):
    if not (is_ear(whole[0]) and is_band(whole[1]) and is_gain(whole[2])):
        return [OUT_OF_RANGE]
    ear = pair.ears[whole[0]]
    ear.gains[whole[1]] = [whole[2]] * LOUDNESSES
    return [DONE]


def trim(pair, whole, rows):
    if not is_ear(whole[0]):
        return [OUT_OF_RANGE]
    ear = pair.ears[whole[0]]
    for band, more in enumerate(rows[0]):
        ear.gains[band] = [clamped(g + more, LEAST_GAIN, MOST_GAIN) for g in ear.gains[band]]
    return [DONE]


def turn(pair, whole, rows):
    if not (is_ear(whole[0]) and within(whole[1], 0, 7) and is_amount(whole[2])):
        return [OUT_OF_RANGE]
    ear = pair.ears[whole[0]]
    ear.delay = whole[1]
    ear.part = whole[2]
    return [DONE]


def echo(pair, whole, rows):
    if not (is_ear(whole[0]) and within(whole[1], 16, 255) and within(whole[2], 0, 255)):
        return [OUT_OF_RANGE]
    ear = pair.ears[whole[0]]
    ear.way = whole[1]
    ear.rate = whole[2]
    return [DONE]


def limit(pair, whole, rows):
    if not (is_ear(whole[0]) and is_amount(whole[1])):
        return [OUT_OF_RANGE]
    ear = pair.ears[whole[0]]
    ear.most = whole[1]
    return [DONE]


def tone(pair, whole, rows):
    if not (is_ear(whole[0]) and within(whole[1], 0, 65535) and is_amount(whole[2])):
        return [OUT_OF_RANGE]
    ear = pair.ears[whole[0]]
    ear.step = whole[1]
    ear.strength = whole[2]
    return [DONE]


def sound(pair, whole, rows):
    if not within(whole[0], 1, 64):
        return [OUT_OF_RANGE]
    told = [DONE]
    for k in range(whole[0]):
        told.extend(heard_block(pair, rows[0][BLOCK * k:BLOCK * k + BLOCK]))
    return told


# By a call's number: what answers it.
HANDLERS = (begin, taps, times, couple, gains, flat, trim, turn, echo, limit, tone, sound)


def answer(pair, number, whole, rows):
    return HANDLERS[number](pair, whole, rows)
