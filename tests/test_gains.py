"""Step 7: which gain a band has; gains, flat, trim, couple."""

import unittest

from helper import (LEAST, MOST, PASS, at, begin, block, both, couple, flat, gains, left, right, row_of, sound, taps,
                    trim)

START = [begin(), taps(0, PASS)]


class Loudness(unittest.TestCase):
    def test_all_sixteen_from_their_upper_ends(self):
        # The level is one less than the peak: 2^k makes 2^k - 1, of k bits. 32767 passes as 32766.
        for k, number in enumerate([2 ** k for k in range(15)] + [32767]):
            for loudness in range(16):
                row = left(*START, gains(0, 0, at({loudness: 8})), sound(block([number, 1])))
                self.assertEqual(row[1], 2 if loudness == k else 1)

    def test_all_sixteen_from_their_lower_ends(self):
        # 2^k + 1 makes 2^k, of k + 1 bits. 16386 passes as 16385.
        for k, number in enumerate([2 ** k + 1 for k in range(14)] + [16386]):
            for loudness in range(16):
                row = left(*START, gains(0, 0, at({loudness: 8})), sound(block([number, 1])))
                self.assertEqual(row[1], 2 if loudness == k + 1 else 1)


class Gains(unittest.TestCase):
    def test_gains_are_0_behind_begin(self):
        for band in range(8):
            rows = both(begin(), taps(band, PASS), sound(block([1000], (), [3])))
            self.assertEqual(rows, (row_of([1000]), row_of([3])))

    def test_for_one_ear_and_one_band(self):
        doubled = [8] * 16
        for band in range(8):
            for other in range(8):
                rows = both(begin(), taps(band, PASS), gains(1, other, doubled), sound(block([1000], (), [1000])))
                self.assertEqual(rows, (row_of([1000]), row_of([2000 if other == band else 1000])))

    def test_least_and_greatest_gain(self):
        self.assertEqual(left(*START, gains(0, 0, [-64] * 16), sound(block([16384]))), row_of([64]))
        # (100 * 30048 + 64) / 128 = 23475.5.
        self.assertEqual(left(*START, gains(0, 0, [63] * 16), sound(block([100]))), row_of([23475]))

    def test_flat_for_all_loudnesses(self):
        for number in [2 ** k for k in range(14)]:
            self.assertEqual(left(*START, flat(0, 0, 8), sound(block([number]))), row_of([2 * number]))
        row = left(*START, flat(0, 0, 8), sound(block([32767, 1])))
        self.assertEqual(row[1], 2)

    def test_flat_for_one_ear_and_one_band(self):
        for band in range(8):
            for other in range(8):
                rows = both(begin(), taps(band, PASS), flat(1, other, 8), sound(block([1000], (), [1000])))
                self.assertEqual(rows, (row_of([1000]), row_of([2000 if other == band else 1000])))

    def test_the_last_that_was_set_counts(self):
        self.assertEqual(left(*START, flat(0, 0, 8), gains(0, 0, [16] * 16), sound(block([100]))), row_of([400]))
        self.assertEqual(left(*START, gains(0, 0, [16] * 16), flat(0, 0, 8), sound(block([100]))), row_of([200]))


class Trim(unittest.TestCase):
    def test_each_number_for_its_band(self):
        add = [-24, -16, -8, 0, 8, 16, 24, 32]
        expected = [128, 256, 512, 1024, 2048, 4096, 8192, 16384]
        for band in range(8):
            row = left(begin(), taps(band, PASS), trim(0, add), sound(block([1024])))
            self.assertEqual(row, row_of([expected[band]]))

    def test_bands_that_it_does_not_reach_stay(self):
        for band in range(8):
            row = left(begin(), taps(band, PASS), trim(0, [8, 8, 8]), sound(block([1024])))
            self.assertEqual(row, row_of([2048 if band < 3 else 1024]))

    def test_with_no_numbers_nothing_changes(self):
        calls = [*START, flat(0, 0, 8), trim(0, []), trim(1, []), sound(block([1024], (), [1024]))]
        self.assertEqual(both(*calls), (row_of([2048]), row_of([1024])))

    def test_for_one_ear(self):
        self.assertEqual(both(*START, trim(0, [8]), sound(block([1024], (), [1024]))),
                         (row_of([2048]), row_of([1024])))
        self.assertEqual(both(*START, trim(1, [8]), sound(block([1024], (), [1024]))),
                         (row_of([1024]), row_of([2048])))

    def test_added_to_what_is_there_for_all_loudnesses(self):
        # Gains of -64, -56, .. 56 by loudness, and 8 more each.
        row = [-64 + 8 * k for k in range(16)]
        for k in range(15):
            # The level of 2^k has k bits; by -56 + 8 k it's made 2^(k - 7) times as loud.
            number = 2 ** k
            told = left(*START, gains(0, 0, row), trim(0, [8]), sound(block([number])))
            self.assertEqual(told[0], min((number * 2 ** k + 64) // 128, 32767))

    def test_added_again_and_again(self):
        self.assertEqual(left(*START, trim(0, [8]), trim(0, [16]), trim(0, [-8]), sound(block([100]))), row_of([400]))

    def test_not_above_63(self):
        for calls in [[flat(0, 0, 60), trim(0, [8])], [flat(0, 0, 60), trim(0, [4])], [trim(0, [MOST])],
                      [flat(0, 0, 63), trim(0, [1])], [flat(0, 0, -64), trim(0, [MOST])]]:
            self.assertEqual(left(*START, *calls, sound(block([100]))), row_of([23475]))
        # 62: j is 6, (100 * 27554 + 64) / 128 = 21527.06.
        self.assertEqual(left(*START, flat(0, 0, 60), trim(0, [2]), sound(block([100]))), row_of([21527]))

    def test_not_below_minus_64(self):
        for calls in [[flat(0, 0, -60), trim(0, [-8])], [trim(0, [LEAST])], [flat(0, 0, -64), trim(0, [-1])],
                      [flat(0, 0, 63), trim(0, [LEAST])]]:
            self.assertEqual(left(*START, *calls, sound(block([16384]))), row_of([64]))
        # -63: (16384 * 17867 + 2^21) / 2^22 = 70.3.
        self.assertEqual(left(*START, flat(0, 0, -60), trim(0, [-3]), sound(block([16384]))), row_of([70]))

    def test_what_was_cut_off_is_gone(self):
        # 60 + 8 is 63, less 63 is 0.
        self.assertEqual(left(*START, flat(0, 0, 60), trim(0, [8]), trim(0, [-63]), sound(block([100]))), row_of([100]))

    def test_each_loudness_is_cut_off_by_itself(self):
        # At loudness 7 63 stays 63, at loudness 5 8 is 16.
        start = [*START, gains(0, 0, at({7: 63, 5: 8})), trim(0, [8])]
        self.assertEqual(left(*start, sound(block([128]))), row_of([30048]))
        self.assertEqual(left(*start, sound(block([32]))), row_of([128]))


class Coupled(unittest.TestCase):
    def test_both_go_by_the_louder_one(self):
        start = [*START, gains(0, 0, at({11: 8})), gains(1, 0, at({11: 16}))]
        loud_left = block([1025], (), [100])
        loud_right = block([100], (), [1025])
        self.assertEqual(both(*start, couple(1, 0), sound(loud_left)), (row_of([2050]), row_of([400])))
        self.assertEqual(both(*start, couple(1, 0), sound(loud_right)), (row_of([200]), row_of([4100])))

    def test_not_coupled_each_by_itself(self):
        start = [*START, gains(0, 0, at({11: 8})), gains(1, 0, at({11: 16}))]
        loud_left = block([1025], (), [100])
        self.assertEqual(both(*start, sound(loud_left)), (row_of([2050]), row_of([100])))
        self.assertEqual(both(*start, couple(0, 0), sound(loud_left)), (row_of([2050]), row_of([100])))
        self.assertEqual(both(*start, couple(1, 0), couple(0, 0), sound(loud_left)), (row_of([2050]), row_of([100])))

    def test_coupled_by_the_same_band(self):
        # Band 1 hears an eighth: 8200 / 8 = 1025, eleven bits; band 0 has fourteen.
        start = [*START, taps(1, row_of([4096])), couple(1, 0)]
        told = right(*start, gains(1, 0, at({11: 8})), sound(block([8200], (), [16])))
        self.assertEqual(told, row_of([16 + 2]))
        told = right(*start, gains(1, 0, at({14: 8})), sound(block([8200], (), [16])))
        self.assertEqual(told, row_of([32 + 2]))
        told = right(*start, gains(1, 1, at({11: 8})), sound(block([8200], (), [16])))
        self.assertEqual(told, row_of([16 + 4]))

    def test_coupled_levels_stay_apart(self):
        # Coupled once, the right ear's own level of 99 is still what it goes by afterwards.
        start = [*START, gains(1, 0, at({11: 8})), couple(1, 0), sound(block([1025], (), [100])), couple(0, 0)]
        self.assertEqual(right(*start, sound(block([1025], (), [100]))), row_of([100]))


class Lessen(unittest.TestCase):
    # 256 alone is steady noise, 255 is nothing, 520 twice is another scene.
    def test_in_steady_noise_alone(self):
        start = [*START, flat(0, 0, 8), couple(0, 8)]
        self.assertEqual(left(*start, sound(block([256]))), row_of([256]))
        self.assertEqual(left(*start, sound(block([255]))), row_of([510]))
        self.assertEqual(left(*start, sound(block([520, 520]))), row_of([1040, 1040]))

    def test_by_a_part_of_a_doubling(self):
        # 8 - 4: (256 * 23170 + 8192) / 16384 = 362.5; below 0: -362.03 + 0.5, down.
        self.assertEqual(left(*START, flat(0, 0, 8), couple(0, 4), sound(block([256]))), row_of([362]))
        self.assertEqual(left(*START, flat(0, 0, 8), couple(0, 4), sound(block([-256]))), row_of([-362]))

    def test_lessen_at_its_ends(self):
        self.assertEqual(left(*START, flat(0, 0, 8), couple(0, 0), sound(block([256]))), row_of([512]))
        # 63 - 64 = -1: (256 * 30048 + 16384) / 32768 = 235.25.
        self.assertEqual(left(*START, flat(0, 0, 63), couple(0, 64), sound(block([256]))), row_of([235]))

    def test_lessen_is_0_behind_begin(self):
        self.assertEqual(left(*START, flat(0, 0, 8), sound(block([256]))), row_of([512]))

    def test_minus_64_at_the_least(self):
        # (16384 + 128) / 256 = 64.5.
        for gain, lessen in [(-60, 64), (0, 64), (-64, 1), (-64, 64), (-60, 4)]:
            row = left(*START, flat(0, 0, gain), couple(0, lessen), sound(block([16384])))
            self.assertEqual(row, row_of([64]))
        # -60 - 3 = -63.
        self.assertEqual(left(*START, flat(0, 0, -60), couple(0, 3), sound(block([16384]))), row_of([70]))

    def test_coupled_still_by_this_ears_scene(self):
        start = [*START, flat(0, 0, 8), flat(1, 0, 8), couple(1, 8)]
        self.assertEqual(both(*start, sound(block([256], (), [100]))), (row_of([256]), row_of([200])))
        self.assertEqual(both(*start, sound(block([100], (), [256]))), (row_of([200]), row_of([256])))

    def test_for_all_bands_of_the_ear(self):
        for band in range(8):
            row = left(begin(), taps(band, PASS), flat(0, band, 8), couple(0, 8), sound(block([256])))
            self.assertEqual(row, row_of([256]))


if __name__ == "__main__":
    unittest.main()
