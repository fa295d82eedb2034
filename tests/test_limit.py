"""Step 11: nothing goes past the limit."""

import unittest

from helper import PASS, begin, block, both, left, limit, row_of, sound, taps, tone

QUITE_LOUD = [50, 100, 101, -50, -100, -101, 16384, -16383, 99, -99]


class Limit(unittest.TestCase):
    def test_not_above_it_and_not_below_its_opposite(self):
        row = left(begin(), taps(0, PASS), limit(0, 100), sound(block(QUITE_LOUD)))
        self.assertEqual(row, row_of([50, 100, 100, -50, -100, -100, 100, -100, 99, -99]))

    def test_limit_zero(self):
        self.assertEqual(left(begin(), taps(0, PASS), limit(0, 0), sound(block(QUITE_LOUD))), [0] * 16)

    def test_the_greatest_limit_and_behind_begin(self):
        # Two numbers of -32768 make -32768, held: the limit's opposite is -32767.
        start = [begin(), taps(0, row_of([32767, 32767]))]
        loud = sound(block([-32768, -32768, 0, 32767, 32767]))
        self.assertEqual(left(*start, loud), row_of([-32767, -32767, -32767, 32766, 32767, 32766]))
        self.assertEqual(left(*start, limit(0, 32767), loud), row_of([-32767, -32767, -32767, 32766, 32767, 32766]))
        self.assertEqual(left(*start, limit(0, 32766), loud), row_of([-32766, -32766, -32766, 32766, 32766, 32766]))

    def test_for_one_ear(self):
        rows = both(begin(), taps(0, PASS), limit(0, 100), sound(block([500], (), [500])))
        self.assertEqual(rows, (row_of([100]), row_of([500])))
        rows = both(begin(), taps(0, PASS), limit(1, 100), sound(block([500], (), [-500])))
        self.assertEqual(rows, (row_of([500]), row_of([-100])))

    def test_the_tone_is_limited_too(self):
        row = left(begin(), limit(0, 5000), tone(0, 4096, 16384), sound(block()))
        self.assertEqual(row, [-5000, -5000, -5000, -4096, 0, 4096, 5000, 5000, 5000, 5000, 5000, 4096, 0, -4096,
                               -5000, -5000])


if __name__ == "__main__":
    unittest.main()
