"""Step 9: the bands are put together, neighbours first."""

import unittest

from helper import at, begin, block, flat, left, row_of, sound, taps, tone


def bands_of(numbers):
    """Calls by which 16384 gives the bands these even numbers: (16384 v + 16384) / 32768 = v / 2, doubled."""
    calls = [begin()]
    for band, number in enumerate(numbers):
        calls.append(taps(band, row_of([number])))
        calls.append(flat(0, band, 8))
    return calls


def together(numbers):
    return left(*bands_of(numbers), sound(block([16384])))[0]


class Together(unittest.TestCase):
    def test_the_sum_of_all_eight(self):
        self.assertEqual(together([2, 4, 6, 8, 10, 12, 14, 16]), 72)
        self.assertEqual(together([2000, -4000, 6000, -8000, 10000, -12000, 14000, -16000]), -8000)

    def test_pairs_are_held(self):
        self.assertEqual(together([30000, 10000, -20000, 0, 0, 0, 0, 0]), 32767 - 20000)
        self.assertEqual(together([-20000, 0, 30000, 10000, 0, 0, 0, 0]), 32767 - 20000)
        self.assertEqual(together([0, 0, 0, 0, 30000, 10000, 0, -20000]), 32767 - 20000)
        self.assertEqual(together([0, 0, 0, -20000, 0, 0, 30000, 10000]), 32767 - 20000)

    def test_pairs_are_held_below(self):
        self.assertEqual(together([-30000, -10000, 20000, 0, 0, 0, 0, 0]), -32768 + 20000)
        self.assertEqual(together([0, 0, -30000, -10000, 0, 0, 20000, 0]), -32768 + 20000)
        self.assertEqual(together([0, 20000, 0, 0, -30000, -10000, 0, 0]), -32768 + 20000)
        self.assertEqual(together([0, 0, 0, 0, 20000, 0, -30000, -10000]), -32768 + 20000)

    def test_within_a_pair_before_all_else(self):
        # One behind another it would be 32767 - 10000 = 22767.
        self.assertEqual(together([20000, 0, 20000, -10000, 0, 0, 0, 0]), 30000)
        self.assertEqual(together([20000, 0, 0, 0, 20000, -10000, 0, 0]), 30000)
        self.assertEqual(together([0, 0, 20000, 0, 0, 0, -10000, 20000]), 30000)

    def test_fours_are_held(self):
        self.assertEqual(together([20000, 0, 20000, 0, -10000, 0, 0, 0]), 32767 - 10000)
        self.assertEqual(together([0, -10000, 0, 0, 0, 20000, 20000, 0]), 32767 - 10000)
        self.assertEqual(together([0, -20000, -20000, 0, 0, 0, 0, 10000]), -32768 + 10000)
        self.assertEqual(together([0, 0, 0, 10000, -20000, 0, 0, -20000]), -32768 + 10000)

    def test_both_fours_before_the_whole(self):
        self.assertEqual(together([20000, 0, 0, 0, 20000, 0, -10000, 0]), 30000)

    def test_the_whole_is_held_before_the_tone(self):
        # The tone at phase 0 is the share of -32768 by a half.
        calls = bands_of([20000, 0, 0, 0, 20000, 0, 0, 0])
        self.assertEqual(left(*calls, tone(0, 0, 16384), sound(block([16384])))[0], 32767 - 16384)
        # At moment 1 of a step of 32768 it's the share of 32767 by a half.
        calls = bands_of([-20000, 0, 0, 0, -20000, 0, 0, 0])
        self.assertEqual(left(*calls, tone(0, 32768, 16384), sound(block(at({1: 16384}))))[1], -32768 + 16383)

    def test_moment_by_moment(self):
        # Band 0 hears half of it at once, band 7 a quarter one moment later.
        calls = [begin(), taps(0, row_of([16384])), taps(7, row_of([0, 8192]))]
        self.assertEqual(left(*calls, sound(block([1000, 2000]))), row_of([500, 1000 + 250, 500]))


if __name__ == "__main__":
    unittest.main()
