"""Step 8: made louder by a gain."""

import unittest

from helper import PASS, at, begin, block, flat, left, row_of, sound, taps


def louder(number, gain):
    return left(begin(), taps(0, PASS), flat(0, 0, gain), sound(block([number])))[0]


class Louder(unittest.TestCase):
    def test_the_eight_numbers(self):
        # 16384 by them, and 8192, / 16384: each as it is.
        self.assertEqual([louder(16384, gain) for gain in range(8)],
                         [16384, 17867, 19484, 21247, 23170, 25268, 27554, 30048])

    def test_gains_above_0(self):
        # 1000 times each, / 16384, and a half, rounded down.
        self.assertEqual([louder(1000, gain) for gain in range(8)],
                         [1000, 1091, 1189, 1297, 1414, 1542, 1682, 1834])
        self.assertEqual([louder(1000, gain) for gain in (8, 9, 15, 16, 33, 40)],
                         [2000, 2181, 3668, 4000, 17448, 32000])
        self.assertEqual(louder(1, 56), 128)
        # (1 * 30048 + 64) / 128 = 235.25.
        self.assertEqual(louder(1, 63), 235)

    def test_gains_below_0_count_down_from_the_next_lower_eight(self):
        # -1 is 7 above -8, so 30048 / 32768.
        self.assertEqual([louder(1000, gain) for gain in (-1, -2, -3, -4, -5, -6, -7, -8, -9)],
                         [917, 841, 771, 707, 648, 595, 545, 500, 458])
        self.assertEqual([louder(1000, gain) for gain in (-57, -63, -64)], [7, 4, 4])

    def test_numbers_below_0_round_down(self):
        self.assertEqual([louder(-1000, gain) for gain in range(8)],
                         [-1000, -1091, -1189, -1297, -1414, -1542, -1682, -1834])
        self.assertEqual([louder(-1000, gain) for gain in (-1, -2, -5, -6, -8, -9, -57, -64)],
                         [-917, -841, -648, -595, -500, -458, -7, -4])

    def test_halves_go_up(self):
        # 3 / 2 and a half is 2; -3 / 2 and a half is -1; 1 and -1: 1 and 0.
        self.assertEqual([louder(number, -8) for number in (3, -3, 1, -1)], [2, -1, 1, 0])
        self.assertEqual([louder(number, -64) for number in (127, 128, -128, -129)], [0, 1, 0, -1])

    def test_held_above(self):
        self.assertEqual(louder(1000, 41), 32767)
        self.assertEqual(louder(16384, 63), 32767)
        # Held before bands are put together: band 1 has (-3276800 + 16384) / 32768 = -99.5.
        row = left(begin(), taps(0, PASS), flat(0, 0, 63), taps(1, row_of([-16384])), sound(block([200])))
        self.assertEqual(row[0], 32767 - 100)

    def test_held_below(self):
        # 234.75 * -200 is held at -32768; band 1 has (3276800 + 16384) / 32768 = 100.5.
        row = left(begin(), taps(0, PASS), flat(0, 0, 63), taps(1, row_of([-16384])), sound(block([-200])))
        self.assertEqual(row[0], -32768 + 100)

    def test_the_same_gain_for_all_moments(self):
        row = left(begin(), taps(0, PASS), flat(0, 0, 8), sound(block([1, -2, 3] + [0] * 12 + [4])))
        self.assertEqual(row, at({0: 2, 1: -4, 2: 6, 15: 8}))


if __name__ == "__main__":
    unittest.main()
