"""The calls on a pair: each takes the pair, the call's whole numbers and its rows, and answers a list."""

from softhear.asked import block_bytes, loudest_of, masked
from softhear.bounds import (LEAST_GAIN, LEAST_WAY, MOST_DELAY, MOST_GAIN, MOST_LESSEN, MOST_RATE, MOST_STEP, MOST_WAY,
                             is_amount, is_band, is_ear, is_gain, taps_fit)
from softhear.hearing import heard_block, louder_row, scene, split_by_halves, woven
from softhear.kept import all_bytes, can_be_set, numbers_from, set_numbers, sum_is_right
from softhear.pair import BANDS, BLOCKS_KEPT, LOUDNESSES
from softhear.sixteen import clamped, portion, share, within

DONE = 0
OUT_OF_RANGE = -2
NOT_TAKEN = -3
NOT_KEPT = -4

BLOCK = 64


def begin(pair, whole, rows):
    pair.renew()
    return [DONE]


def taps(pair, whole, rows):
    band = whole[0]
    if not is_band(band):
        return [OUT_OF_RANGE]
    if not taps_fit(rows[0]):
        return [NOT_TAKEN]
    pair.taps[band] = rows[0]
    return [DONE]


def times(pair, whole, rows):
    if not (is_amount(whole[0]) and is_amount(whole[1])):
        return [OUT_OF_RANGE]
    pair.attack = whole[0]
    pair.release = whole[1]
    return [DONE]


def couple(pair, whole, rows):
    if not (within(whole[0], 0, 1) and within(whole[1], 0, MOST_LESSEN)):
        return [OUT_OF_RANGE]
    pair.coupled = whole[0]
    pair.lessen = whole[1]
    return [DONE]


def gains(pair, whole, rows):
    if not (is_ear(whole[0]) and is_band(whole[1])):
        return [OUT_OF_RANGE]
    if not all([is_gain(x) for x in rows[0]]):
        return [NOT_TAKEN]
    ear = pair.ears[whole[0]]
    ear.gains[whole[1]] = rows[0]
    return [DONE]


def flat(pair, whole, rows):
    if not (is_ear(whole[0]) and is_band(whole[1]) and is_gain(whole[2])):
        return [OUT_OF_RANGE]
    ear = pair.ears[whole[0]]
    ear.gains[whole[1]] = [whole[2]] * LOUDNESSES
    return [DONE]


def trim(pair, whole, rows):
    if not is_ear(whole[0]):
        return [OUT_OF_RANGE]
    ear = pair.ears[whole[0]]
    for band, more in enumerate(rows[0]):
        ear.gains[band] = [clamped(g + more, LEAST_GAIN, MOST_GAIN) for g in ear.gains[band]]
    return [DONE]


def turn(pair, whole, rows):
    if not (is_ear(whole[0]) and within(whole[1], 0, MOST_DELAY) and is_amount(whole[2])):
        return [OUT_OF_RANGE]
    ear = pair.ears[whole[0]]
    ear.delay = whole[1]
    ear.part = whole[2]
    return [DONE]


def echo(pair, whole, rows):
    if not (is_ear(whole[0]) and within(whole[1], LEAST_WAY, MOST_WAY) and within(whole[2], 0, MOST_RATE)):
        return [OUT_OF_RANGE]
    ear = pair.ears[whole[0]]
    ear.way = whole[1]
    ear.rate = whole[2]
    return [DONE]


def limit(pair, whole, rows):
    if not (is_ear(whole[0]) and is_amount(whole[1])):
        return [OUT_OF_RANGE]
    ear = pair.ears[whole[0]]
    ear.most = whole[1]
    return [DONE]


def tone(pair, whole, rows):
    if not (is_ear(whole[0]) and within(whole[1], 0, MOST_STEP) and is_amount(whole[2])):
        return [OUT_OF_RANGE]
    ear = pair.ears[whole[0]]
    ear.step = whole[1]
    ear.strength = whole[2]
    return [DONE]


def sound(pair, whole, rows):
    if not within(whole[0], 1, 64):
        return [OUT_OF_RANGE]
    told = [DONE]
    for k in range(whole[0]):
        told.extend(heard_block(pair, rows[0][BLOCK * k:BLOCK * k + BLOCK]))
    return told


def past(pair, whole, rows):
    if not (is_ear(whole[0]) and within(whole[1], 0, BLOCKS_KEPT - 1)):
        return [OUT_OF_RANGE]
    return [DONE] + masked(block_bytes(pair.ears[whole[0]], whole[1]), rows[0])


def loudest(pair, whole, rows):
    if not (is_ear(whole[0]) and within(whole[1], 1, BLOCKS_KEPT)):
        return [OUT_OF_RANGE]
    return loudest_of(pair.ears[whole[0]], whole[1])


def levels(pair, whole, rows):
    if not (is_ear(whole[0]) and within(whole[1], 0, BANDS)):
        return [OUT_OF_RANGE]
    ear = pair.ears[whole[0]]
    return [DONE] + ear.levels[:whole[1]]


def state(pair, whole, rows):
    if not is_ear(whole[0]):
        return [OUT_OF_RANGE]
    ear = pair.ears[whole[0]]
    return [DONE] + ear.weights + ear.busy + [scene(ear.busy), ear.phase]


def save(pair, whole, rows):
    return [DONE] + all_bytes(pair)


def load(pair, whole, rows):
    numbers = numbers_from(rows[0])
    if not (sum_is_right(rows[0]) and can_be_set(numbers)):
        return [NOT_KEPT]
    set_numbers(pair, numbers)
    return [DONE]


def apart(pair, whole, rows):
    block = rows[0]
    return [DONE] + block[0::4] + block[1::4] + block[2::4] + block[3::4]


def weave(pair, whole, rows):
    return [DONE] + woven(rows[0], rows[1])


def split(pair, whole, rows):
    told = [DONE]
    for row in split_by_halves(rows[0]):
        told.extend(row)
    return told


def shares(pair, whole, rows):
    return [DONE] + [share(x, y) for x, y in zip(rows[0], rows[1])]


def portions(pair, whole, rows):
    return [DONE] + [portion(x, y) for x, y in zip(rows[0], rows[1])]


def amplify(pair, whole, rows):
    if not is_gain(whole[0]):
        return [OUT_OF_RANGE]
    return [DONE] + louder_row(rows[0], whole[0])


# By a call's number: what answers it.
HANDLERS = (begin, taps, times, couple, gains, flat, trim, turn, echo, limit, tone, sound,
            past, loudest, levels, state, save, load, apart, weave, split, shares, portions, amplify)


def answer(pair, number, whole, rows):
    return HANDLERS[number](pair, whole, rows)
