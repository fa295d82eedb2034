"""What an ear has put out, asked for afterwards by blocks; block 0 is the last."""

from softhear.pair import MOMENTS, PUT_KEPT
from softhear.sixteen import bytes_of


def block_put(ear, back):
    end = PUT_KEPT - MOMENTS * back
    return ear.put[end - MOMENTS:end]


def block_bytes(ear, back):
    row = []
    for x in block_put(ear, back):
        row.extend(bytes_of(x, 2))
    return row


def masked(row, mask):
    """Those at whose place the mask's byte has its highest bit."""
    return [x for x, m in zip(row, mask) if m >= 128]


def energy(row):
    return sum([x * x for x in row])


def loudest_of(ear, how_many):
    """Which of the last blocks has the greatest energy, and this."""
    energies = [energy(block_put(ear, back)) for back in range(how_many)]
    most = max(energies)
    # The first in this order is the latest of several.
    return [energies.index(most), most]
