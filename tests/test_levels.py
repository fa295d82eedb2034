"""Step 6: each band's level, seen by the gain at one loudness."""

import unittest

from helper import PASS, at, begin, block, gains, left, right, row_of, sound, taps, times


def only_at(loudness):
    """Gains of 0, but twice as loud at this loudness."""
    return at({loudness: 8})


def loudnesses(start, rows, band=0):
    """For each block of front numbers, that have a 1 at moment 8: the loudness at which it comes out as 2."""
    found = [[] for row in rows]
    for loudness in range(16):
        told = left(*start, gains(0, band, only_at(loudness)), sound(*[block(row) for row in rows]))
        for k in range(len(rows)):
            number = told[16 * k + 8]
            if number == 2:
                found[k].append(loudness)
            elif number != 1:
                raise AssertionError(number)
    return [one for [one] in found]


def peak(number):
    return at({0: number, 8: 1})


class Levels(unittest.TestCase):
    def test_behind_begin_attack_is_32767(self):
        # The share of x by it is x - 1: 1023 has ten bits, 1024 has eleven.
        self.assertEqual(loudnesses([begin(), taps(0, PASS)], [peak(1024)]), [10])
        self.assertEqual(loudnesses([begin(), taps(0, PASS)], [peak(1025)]), [11])

    def test_behind_begin_release_is_1024(self):
        # 1057; less 1056 * 1024 / 32768 = 33: 1024; less 1023 / 32 = 31.97: 993.
        self.assertEqual(loudnesses([begin(), taps(0, PASS)], [peak(1058), peak(0), peak(0)]), [11, 11, 10])
        # 1055; less 1024 / 32 = 32: 1023.
        self.assertEqual(loudnesses([begin(), taps(0, PASS)], [peak(1056), peak(31)]), [11, 10])
        # 1056; less 1055 / 32 = 32.97: 1024. 1055; less 1054 / 32 = 32.9: 1023.
        self.assertEqual(loudnesses([begin(), taps(0, PASS)], [peak(1057), peak(0)]), [11, 11])
        self.assertEqual(loudnesses([begin(), taps(0, PASS)], [peak(1056), peak(0)]), [11, 10])

    def test_attack_by_a_half(self):
        # 2047 / 2 = 1023.5; then 1024 / 2 = 512 more: 1535; then 256 more.
        start = [begin(), taps(0, PASS), times(16384, 1024)]
        self.assertEqual(loudnesses(start, [peak(2047), peak(2047), peak(2047)]), [10, 11, 11])
        self.assertEqual(loudnesses(start, [peak(2048)]), [11])
        # 1024; 512; 256; 128: 1920 is still below 2048; 3968 / 2 is 1984 more, if the peak is 5888.
        self.assertEqual(loudnesses(start, [peak(2048)] * 4 + [peak(5888)]), [11, 11, 11, 11, 12])

    def test_attack_at_its_ends(self):
        self.assertEqual(loudnesses([begin(), taps(0, PASS), times(0, 1024)], [peak(16384)] * 3), [0, 0, 0])
        # 1024; then the share of 1 is 0.
        self.assertEqual(loudnesses([begin(), taps(0, PASS), times(32767, 0)], [peak(1025), peak(1025)]), [11, 11])

    def test_release_by_a_half(self):
        # 1024; less 1023 / 2 = 511.5: 513; less 512 / 2: 257; less 256 / 2: 129.
        start = [begin(), taps(0, PASS), times(32767, 16384)]
        self.assertEqual(loudnesses(start, [peak(1025), peak(0), peak(0), peak(0)]), [11, 10, 9, 8])

    def test_release_at_its_ends(self):
        start = [begin(), taps(0, PASS), times(32767, 0)]
        self.assertEqual(loudnesses(start, [peak(1025), peak(0), peak(0)]), [11, 11, 11])
        # 1024; less the share of 1023, 1022: 2.
        start = [begin(), taps(0, PASS), times(32767, 32767)]
        self.assertEqual(loudnesses(start, [peak(1025), peak(0)]), [11, 2])

    def test_a_level_that_is_the_peak_stays(self):
        start = [begin(), taps(0, PASS), times(32767, 32767)]
        self.assertEqual(loudnesses(start, [peak(1025), peak(1024), peak(1024)]), [11, 11, 11])

    def test_attack_and_release_in_their_places(self):
        # Attack 16384: 512, ten bits. Release 8192: less (512 - 1) / 4 = 127: 385; 289; 217, eight bits.
        start = [begin(), taps(0, PASS), times(16384, 8192)]
        self.assertEqual(loudnesses(start, [peak(1024), peak(0), peak(0), peak(0)]), [10, 9, 9, 8])

    def test_peak_is_the_greatest_size_of_all_sixteen(self):
        start = [begin(), taps(0, PASS)]
        self.assertEqual(loudnesses(start, [at({0: -1025, 8: 1})]), [11])
        self.assertEqual(loudnesses(start, [at({15: 1025, 8: 1})]), [11])
        self.assertEqual(loudnesses(start, [at({0: 100, 1: -1025, 8: 1, 15: 1024})]), [11])

    def test_size_of_the_least_number(self):
        # Two numbers of -32768 by taps of 32767 make -32768, held; its size is 32767, and the share of that
        # by 1 is 0, where the share of 32768 would be 1.
        start = [begin(), taps(0, row_of([32767, 32767])), times(1, 0)]
        self.assertEqual(loudnesses(start, [at({0: -32768, 1: -32768, 8: 1})]), [0])

    def test_each_band_has_its_own_level(self):
        # Band 1 has an eighth: 8200 / 8 = 1025. Both bands: 8199 has fourteen bits, 1024 has eleven.
        start = [begin(), taps(0, PASS), taps(1, row_of([4096]))]
        for first, second, expected in [(14, 0, 16400 + 1025), (0, 11, 8200 + 2050), (14, 11, 16400 + 2050),
                                        (11, 14, 8200 + 1025)]:
            row = left(*start, gains(0, 0, only_at(first)), gains(0, 1, only_at(second)), sound(block([8200])))
            self.assertEqual(row[0], expected)

    def test_each_ear_has_its_own_level(self):
        start = [begin(), taps(0, PASS), gains(0, 0, only_at(11)), gains(1, 0, only_at(11))]
        self.assertEqual(left(*start, sound(block([1025], (), [100]))), row_of([2050]))
        self.assertEqual(right(*start, sound(block([1025], (), [100]))), row_of([100]))

    def test_levels_go_on_from_call_to_call(self):
        start = [begin(), taps(0, PASS), gains(0, 0, only_at(11)), times(32767, 0)]
        self.assertEqual(left(*start, sound(block([1025])), sound(block([3]))), row_of([6]))

    def test_the_new_level_counts_at_once(self):
        # The gain at moment 0 is by the peak at moment 15.
        row = left(begin(), taps(0, PASS), gains(0, 0, only_at(11)), sound(block(at({0: 5, 15: 1025}))))
        self.assertEqual(row, at({0: 10, 15: 2050}))


if __name__ == "__main__":
    unittest.main()
