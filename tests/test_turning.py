"""Step 3: what comes from behind is taken off."""

import unittest

from helper import HALF, PASS, at, begin, block, both, left, right, row_of, sound, taps, turn


class Turning(unittest.TestCase):
    def test_the_share_by_part_is_taken_off_and_rounds_down(self):
        row = left(begin(), taps(0, PASS), turn(0, 0, 16384), sound(block([100] * 16, [10, -3, 3, -1, 1])))
        # Shares: 5; -1.5, so -2; 1.5, so 1; -0.5, so -1; 0.5, so 0.
        self.assertEqual(row, [95, 102, 99, 101] + [100] * 12)

    def test_part_is_zero_behind_begin(self):
        self.assertEqual(left(begin(), taps(0, PASS), sound(block([100] * 16, [1000, -1000] * 8))), [100] * 16)

    def test_part_at_its_ends(self):
        backs = [1, -1, 32767, -32768, 16384]
        self.assertEqual(left(begin(), taps(0, PASS), turn(0, 0, 0), sound(block((), backs))), [0] * 16)
        # By 32767: 0.99, so 0; -0.99, so -1; 32766.00003, so 32766; -32767; 16383.5, so 16383.
        # HALF makes x of it (x + 1) / 2: 0; 1; -16382.5; 16384; -8191.
        row = left(begin(), taps(0, HALF), turn(0, 0, 32767), sound(block((), backs)))
        self.assertEqual(row, row_of([0, 1, -16383, 16384, -8191]))

    def test_delay_reaches_into_the_block_before(self):
        # Halves: 1 .. 16, then 101 .. 116.
        first = block((), [2 * k for k in range(1, 17)])
        second = block((), [2 * k for k in range(101, 117)])
        row = left(begin(), taps(0, PASS), turn(0, 7, 16384), sound(first, second))
        self.assertEqual(row[:16], [0, 0, 0, 0, 0, 0, 0, -1, -2, -3, -4, -5, -6, -7, -8, -9])
        self.assertEqual(row[16:], [-10, -11, -12, -13, -14, -15, -16,
                                    -101, -102, -103, -104, -105, -106, -107, -108, -109])

    def test_a_delay_between(self):
        first = block((), [2 * k for k in range(1, 17)])
        second = block((), [2 * k for k in range(101, 117)])
        row = left(begin(), taps(0, PASS), turn(0, 3, 16384), sound(first), sound(second))
        self.assertEqual(row, [-14, -15, -16, -101, -102, -103, -104, -105, -106, -107, -108, -109, -110, -111,
                               -112, -113])

    def test_back_numbers_are_kept_whatever_was_set(self):
        row = left(begin(), taps(0, PASS), sound(block((), [2 * k for k in range(1, 17)])), turn(0, 7, 16384),
                   sound(block()))
        self.assertEqual(row, row_of([-10, -11, -12, -13, -14, -15, -16]))

    def test_back_numbers_of_two_blocks_before_are_gone(self):
        row = left(begin(), taps(0, PASS), turn(0, 7, 16384), sound(block((), [2000] * 16), block()), sound(block()))
        self.assertEqual(row, [0] * 16)

    def test_held_at_both_ends(self):
        # 32767 + 32767 is held at 32767, and 32768 / 2; -32768 - 32766 at -32768, and -32767 / 2 = -16383.5.
        row = left(begin(), taps(0, HALF), turn(0, 0, 32767), sound(block([32767, -32768], [-32768, 32767])))
        self.assertEqual(row, row_of([16384, -16384]))

    def test_each_ear_by_its_own_back_numbers(self):
        calls = [begin(), taps(0, PASS), turn(0, 0, 16384), turn(1, 1, 8192),
                 sound(block([100] * 16, [40], [200] * 16, [80]))]
        self.assertEqual(both(*calls), ([80] + [100] * 15, [200, 180] + [200] * 14))

    def test_right_delay_into_the_block_before(self):
        row = right(begin(), taps(0, PASS), turn(1, 7, 16384),
                    sound(block((), (), (), at({9: 20, 15: 40})), block()))
        self.assertEqual(row, at({16: -10, 22: -20}, 32))


if __name__ == "__main__":
    unittest.main()
