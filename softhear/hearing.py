"""A block of sixteen moments, on its way from the microphones to the ears."""

from softhear.bounds import LEAST_GAIN
from softhear.pair import BACKS_KEPT, MOMENTS, PUT_KEPT, TAPS, TURNED_KEPT, WEIGHTS
from softhear.sixteen import added, clamped, held, lessened, product, share, sign, size, wrapped

# By how many eighths of a doubling: what to multiply by, where 16384 changes nothing.
EIGHTHS = (16384, 17867, 19484, 21247, 23170, 25268, 27554, 30048)
MOST_WEIGHT = 8191


def heard_block(pair, block):
    """What both ears put out, of 64 numbers that came in."""
    left = pair.ears[0]
    right = pair.ears[1]
    left_bands = listen(pair, left, block[0::4], block[1::4])
    right_bands = listen(pair, right, block[2::4], block[3::4])
    # Coupled gains go by the new levels of both: no ear is spoken to before both have listened.
    left_row = speak(pair, left, left_bands)
    right_row = speak(pair, right, right_bands)
    return woven(left_row, right_row)


def woven(a, b):
    """Two rows as one, by moments."""
    row = []
    for x, y in zip(a, b):
        row.append(x)
        row.append(y)
    return row


def listen(pair, ear, fronts, backs):
    """The eight bands' rows; on the way the ear learns, and notes what it heard."""
    cleared = cleared_row(ear, fronts)
    learn(ear, cleared)
    turned = turned_row(ear, cleared, backs)
    bands = band_rows(pair.taps, ear.turned + turned)
    note_busy(ear, turned)
    note_levels(pair, ear, bands)
    ear.backs = backs[-BACKS_KEPT:]
    ear.turned = turned[-TURNED_KEPT:]
    return bands


def speak(pair, ear, bands):
    """What the ear puts out, of its bands' rows."""
    loud = [louder_row(row, gain_now(pair, ear, band)) for band, row in enumerate(bands)]
    toned = added(together(loud), tone_row(ear))
    row = [clamped(x, -ear.most, ear.most) for x in toned]
    ear.phase = (ear.phase + MOMENTS * ear.step) % 65536
    ear.put = ear.put[MOMENTS:] + row
    return row


def put_before(ear, n):
    """What was put out way, way + 1, .. moments before moment n of the block to come."""
    newest = PUT_KEPT + n - ear.way
    return [ear.put[newest - i] for i in range(WEIGHTS)]


def cleared_row(ear, fronts):
    return [held(x - product(ear.weights, put_before(ear, n))) for n, x in enumerate(fronts)]


def learn(ear, cleared):
    sums = [0] * WEIGHTS
    for n, x in enumerate(cleared):
        for i, y in enumerate(put_before(ear, n)):
            sums[i] = sums[i] + sign(x) * sign(y)
    moved = [w + ear.rate * s for w, s in zip(ear.weights, sums)]
    ear.weights = [clamped(w, -MOST_WEIGHT, MOST_WEIGHT) for w in moved]


def turned_row(ear, cleared, backs):
    start = BACKS_KEPT - ear.delay
    delayed = (ear.backs + backs)[start:start + MOMENTS]
    return lessened(cleared, [share(x, ear.part) for x in delayed])


def band_rows(taps, turned):
    """Each band's sixteen numbers; ahead of the block's own, turned has the fifteen that taps reach back to."""
    lasts = [list(reversed(turned[n:n + TAPS])) for n in range(MOMENTS)]
    return [band_row(row, lasts) for row in taps]


def band_row(taps, lasts):
    return [product(taps, last) for last in lasts]


def split_by_halves(row):
    """The rows of differences, and last the row of the one sum."""
    rows = []
    sums = row
    while len(sums) > 1:
        firsts = sums[0::2]
        seconds = sums[1::2]
        rows.append(lessened(firsts, seconds))
        sums = added(firsts, seconds)
    rows.append(sums)
    return rows


def sum_of_sizes(row):
    return sum([size(x) for x in row])


def note_busy(ear, turned):
    differences = split_by_halves(turned)[:-1]
    ear.busy = [u + (sum_of_sizes(row) - u) // 16 for u, row in zip(ear.busy, differences)]


def scene(busy):
    """0: quiet, 1: steady noise, 2: anything else."""
    if sum(busy) < 64:
        return 0
    if max(busy) <= 2 * min(busy) + 64:
        return 1
    return 2


def note_levels(pair, ear, bands):
    ear.levels = [next_level(pair, level, row) for level, row in zip(ear.levels, bands)]


def next_level(pair, level, row):
    peak = max([size(x) for x in row])
    if level < peak:
        return level + share(peak - level, pair.attack)
    return level - share(level - peak, pair.release)


def gain_now(pair, ear, band):
    level = ear.levels[band]
    if pair.coupled == 1:
        level = max([each.levels[band] for each in pair.ears])
    gain = ear.gains[band][level.bit_length()]
    if scene(ear.busy) == 1:
        gain = max(gain - pair.lessen, LEAST_GAIN)
    return gain


def louder_row(row, gain):
    return [louder(x, gain) for x in row]


def louder(x, gain):
    doublings = gain // 8
    eighths = gain - 8 * doublings
    unit = 1 << (14 - doublings)
    return held((x * EIGHTHS[eighths] + unit // 2) // unit)


def together(rows):
    """The bands' rows as one, neighbours first: where a sum is held depends on the order."""
    left = rows
    while len(left) > 1:
        left = [added(a, b) for a, b in zip(left[0::2], left[1::2])]
    return left[0]


def tone_row(ear):
    return [share(wave(ear.phase + n * ear.step), ear.strength) for n in range(MOMENTS)]


def wave(phase):
    return held(2 * abs(wrapped(phase)) - 32768)
