"""Calls written as the list that the document tells, and their answers read back."""

from softhear.aids import answers

LEAST = -2147483648
MOST = 2147483647


def row_of(first, length=16):
    """The numbers given, then zeros."""
    return list(first) + [0] * (length - len(first))


# A band of PASS has the turned numbers as they are, if from -16383 to 16384:
# (32767 x + 16384) / 32768 = x + (16384 - x) / 32768.
PASS = row_of([32767])
# A band of OPPOSITE has their opposites: (-32768 x + 16384) / 32768 = -x; of -32768 it is 32767, held.
OPPOSITE = row_of([-32768])
# A band of HALF has (16384 x + 16384) / 32768 = (x + 1) / 2.
HALF = row_of([16384])
QUIET = [0] * 64
ALL = [255] * 32

# Where what's set is kept among the 540 bytes: taps of a band at 32 * band, then these; then the left ear's
# and the right ear's, each with its gains of a band at 16 * band, then those below.
ATTACK = 256
RELEASE = 258
COUPLED = 260
LESSEN = 261
EARS = (262, 401)
DELAY = 128
PART = 129
WAY = 131
RATE = 132
LIMIT = 133
STEP = 135
STRENGTH = 137
# Behind begin: attack 32767, release 1024; each ear's way 16, limit 32767.
EAR_BEGUN = [0] * 128 + [0, 0, 0, 16, 0, 255, 127, 0, 0, 0, 0]
BEGUN = [0] * 256 + [255, 127, 0, 4, 0, 0] + EAR_BEGUN + EAR_BEGUN


def begin():
    return [0]


def taps(band, c):
    return [1, band, len(c)] + c


def times(attack, release):
    return [2, attack, release]


def couple(on, lessen):
    return [3, on, lessen]


def gains(ear, band, g):
    return [4, ear, band, len(g)] + g


def flat(ear, band, g):
    return [5, ear, band, g]


def trim(ear, add):
    return [6, ear, len(add)] + add


def turn(ear, delay, part):
    return [7, ear, delay, part]


def echo(ear, way, rate):
    return [8, ear, way, rate]


def limit(ear, most):
    return [9, ear, most]


def tone(ear, step, strength):
    return [10, ear, step, strength]


def sound(*blocks):
    return sound_of(len(blocks), joined(blocks))


def sound_of(n, numbers):
    return [11, n, len(numbers)] + numbers


def past(ear, back, mask):
    return [12, ear, back, len(mask)] + mask


def loudest(ear, n):
    return [13, ear, n]


def levels(ear, n):
    return [14, ear, n]


def state(ear):
    return [15, ear]


def save():
    return [16]


def load(b):
    return [17, len(b)] + b


def apart(numbers):
    return [18, len(numbers)] + numbers


def weave(a, b):
    return [19, len(a)] + a + [len(b)] + b


def split(a):
    return [20, len(a)] + a


def shares(a, b):
    return [21, len(a)] + a + [len(b)] + b


def portions(a, b):
    return [22, len(a)] + a + [len(b)] + b


def amplify(a, g):
    return [23, g, len(a)] + a


def block(left=(), left_back=(), right=(), right_back=()):
    """64 numbers; of what isn't given, zeros."""
    rows = [row_of(left), row_of(left_back), row_of(right), row_of(right_back)]
    return joined(zip(*rows))


def at(places, length=16):
    """A row of zeros, but for the numbers at these places."""
    row = [0] * length
    for place, number in places.items():
        row[place] = number
    return row


def summed(row):
    """Bytes, and behind them their sum."""
    return row + [sum(row) % 256, sum(row) // 256 % 256]


def kept(changes):
    """The bytes behind begin, but from these places on other ones; and their sum."""
    row = list(BEGUN)
    for place, others in changes.items():
        row[place:place + len(others)] = others
    return summed(row)


def everything():
    """Calls that ask for all that can be asked for."""
    calls = [save()]
    for ear in (0, 1):
        calls += [state(ear), levels(ear, 8), loudest(ear, 256), loudest(ear, 3)]
        calls += [past(ear, back, ALL) for back in (0, 1, 2, 3, 7, 255)]
    return calls


def blocks_of(row):
    """A long row of the left ear's front numbers, as blocks."""
    return [block(row[start:start + 16]) for start in range(0, len(row), 16)]


def joined(rows):
    return [number for row in rows for number in row]


def ask(*calls):
    """Each call's answer, as a list."""
    told = answers(joined(calls))
    parted = []
    start = 0
    while start < len(told):
        end = start + 1 + told[start]
        parted.append(told[start + 1:end])
        start = end
    if start != len(told):
        raise AssertionError("an answer is shorter than its count says")
    if len(parted) != len(calls):
        raise AssertionError("not one answer for each call")
    return parted


def last(*calls):
    """The last call's answer."""
    return ask(*calls)[-1]


def both(*calls):
    """What the last call, sound, puts out: the left ear's row, the right ear's."""
    told = ask(*calls)[-1]
    if told[0] != 0:
        raise AssertionError(f"sound answered {told}")
    return told[1::2], told[2::2]


def left(*calls):
    return both(*calls)[0]


def right(*calls):
    return both(*calls)[1]


# All is set, for each ear otherwise, and all bands can be heard.
SETTING = [
    *[taps(band, at({band: 5000, band + 1: 3000 - 700 * band})) for band in range(8)],
    times(20000, 5000), couple(1, 10),
    *[gains(0, band, [20 - k - band for k in range(16)]) for band in range(8)],
    *[gains(1, band, [15 - k + band for k in range(16)]) for band in range(8)],
    turn(0, 3, 9000), turn(1, 5, 14000), echo(0, 17, 200), echo(1, 20, 150), limit(0, 12000), limit(1, 15000),
    tone(0, 700, 2000), tone(1, 1100, 3000)]
BLOCKS = [block(*[[((n * n * 37 + k * n * 11 + 101 * row) % 3001) - 1500 for n in range(16)] for row in range(4)])
          for k in range(6)]
