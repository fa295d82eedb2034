"""Step 4: the bands, by their taps."""

import unittest

from helper import HALF, PASS, at, begin, block, both, flat, left, row_of, sound, taps


class Bands(unittest.TestCase):
    def test_no_taps_behind_begin(self):
        self.assertEqual(both(begin(), sound(block([100] * 16, (), [100] * 16))), ([0] * 16, [0] * 16))

    def test_the_newest_by_the_first_tap(self):
        c = [16384, 8192] + [0] * 13 + [-16384]
        # 100 by 16384: 50.5; by 8192: 25.5; by -16384: -49.5.
        row = left(begin(), taps(0, c), sound(block([100])))
        self.assertEqual(row, at({0: 50, 1: 25, 15: -50}))

    def test_a_half_is_added_and_it_rounds_down(self):
        row = left(begin(), taps(0, row_of([1])), sound(block([16383, 16384, -16384, -16385])))
        self.assertEqual(row, row_of([0, 1, 0, -1]))

    def test_numbers_are_summed_before_they_are_divided(self):
        # 3 * 16384 + 5 * 8192 = 90112; + 16384 = 106496; / 32768 = 3.25.
        row = left(begin(), taps(0, row_of([16384, 8192])), sound(block([5, 3])))
        # 5 * 16384 + 16384 = 3 * 32768; then 3.25; then 3 * 8192 + 16384 = 40960, so 1.
        self.assertEqual(row, row_of([3, 3, 1]))

    def test_fifteen_turned_numbers_of_the_block_before(self):
        c = [k * 2048 for k in range(1, 8)] + [0] * 8 + [4096]
        row = left(begin(), taps(0, c), sound(block(at({0: 800, 15: 1600}))), sound(block()))
        # The 1600 is one moment old at moment 0: by taps 1 to 6 it's 200, 300, .. 700, and 200 by tap 15 at
        # moment 14. The 800 is sixteen moments old at moment 0.
        self.assertEqual(row, at({0: 200, 1: 300, 2: 400, 3: 500, 4: 600, 5: 700, 14: 200}))

    def test_turned_numbers_are_kept_whatever_the_taps_were(self):
        row = left(begin(), sound(block(at({15: 1600}))), taps(0, row_of([0, 4096])), sound(block()))
        self.assertEqual(row, at({0: 200}))

    def test_each_band_by_itself(self):
        for band in range(8):
            row = left(begin(), taps(band, PASS), sound(block([1000, -1000])))
            self.assertEqual(row, row_of([1000, -1000]))

    def test_each_band_has_its_own_taps(self):
        # Shares of 32000: 1000 for band 0, 2000 for band 1, .. 8000 for band 7, at moments 0 to 7.
        calls = [taps(band, at({band: 1024 * (band + 1)})) for band in range(8)]
        row = left(begin(), *calls, sound(block([32000])))
        self.assertEqual(row, row_of([1000, 2000, 3000, 4000, 5000, 6000, 7000, 8000]))

    def test_taps_again_take_the_place_of_the_old(self):
        row = left(begin(), taps(0, PASS), taps(0, HALF), sound(block([1000])))
        self.assertEqual(row, row_of([500]))

    def test_both_ears_go_by_the_same_taps(self):
        rows = both(begin(), taps(2, HALF), sound(block([1000], (), [-3000])))
        self.assertEqual(rows, (row_of([500]), row_of([-1500])))

    def test_held_at_both_ends(self):
        # A gain of -8 halves what is held: (32767 + 1) / 2, and (-32768 + 1) / 2 = -16383.5.
        start = [begin(), taps(0, row_of([32767, 32767])), flat(0, 0, -8)]
        self.assertEqual(left(*start, sound(block([32767, 32767])))[1], 16384)
        self.assertEqual(left(*start, sound(block([-32768, -32768])))[1], -16384)

    def test_least_tap_by_least_number(self):
        # 2^30 / 2^15 = 32768 is held at 32767.
        self.assertEqual(left(begin(), taps(0, row_of([-32768])), sound(block([-32768, 32767, -1, 1]))),
                         row_of([32767, -32767, 1, -1]))


if __name__ == "__main__":
    unittest.main()
