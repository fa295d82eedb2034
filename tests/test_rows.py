"""apart, weave, split, shares, portions, amplify: calls on rows alone."""

import unittest

from helper import LEAST, MOST, amplify, apart, ask, last, portions, row_of, shares, split, weave


class Apart(unittest.TestCase):
    def test_by_ears_and_microphones(self):
        told = last(apart(list(range(1, 65))))
        self.assertEqual(told, [0] + list(range(1, 65, 4)) + list(range(2, 65, 4)) + list(range(3, 65, 4)) +
                         list(range(4, 65, 4)))

    def test_numbers_stay_as_they_are(self):
        told = last(apart([32767, -32768, 0, -1] * 16))
        self.assertEqual(told, [0] + [32767] * 16 + [-32768] * 16 + [0] * 16 + [-1] * 16)


class Weave(unittest.TestCase):
    def test_by_moments(self):
        told = last(weave(list(range(1, 17)), list(range(101, 117))))
        self.assertEqual(told, [0, 1, 101, 2, 102, 3, 103, 4, 104, 5, 105, 6, 106, 7, 107, 8, 108, 9, 109, 10, 110,
                                11, 111, 12, 112, 13, 113, 14, 114, 15, 115, 16, 116])

    def test_numbers_stay_as_they_are(self):
        self.assertEqual(last(weave([-32768] * 16, [32767] * 16)), [0] + [-32768, 32767] * 16)


class Split(unittest.TestCase):
    def check(self, row, *told):
        self.assertEqual(last(split(row)), [0] + [number for part in told for number in part])

    def test_one_to_sixteen(self):
        # Sums 3 7 11 15 19 23 27 31; 10 26 42 58; 36 100; 136.
        self.check(list(range(1, 17)), [-1] * 8, [-4] * 4, [-16] * 2, [-64], [136])

    def test_uneven_numbers(self):
        # Sums 2 107 0 -11 2 5 0 -10; 109 -11 7 -10; 98 -3; 95.
        self.check([5, -3, 100, 7, 0, 0, -20, 9, 1, 1, 2, 3, -4, 4, 50, -60],
                   [8, 93, 0, -29, 0, -1, -8, 110], [-105, 11, -3, 10], [120, 17], [101], [95])

    def test_each_place_alone(self):
        # It is in one difference of each row, taken off where its half is the second one.
        for place in range(16):
            rows = []
            for half in (1, 2, 4, 8):
                row = [0] * (8 // half)
                row[place // half // 2] = -100 if place // half % 2 else 100
                rows.append(row)
            self.check([0] * place + [100] + [0] * (15 - place), *rows, [100])

    def test_differences_and_sums_are_held(self):
        # Differences 65535 and -65535; sums -1, -1, 65534, -65536: -1 -1 32767 -32768. Then 0 and 65535;
        # sums -2 and -1: -1 and -3.
        self.check([32767, -32768, -32768, 32767, 32767, 32767, -32768, -32768] + [0] * 8,
                   [32767, -32768, 0, 0, 0, 0, 0, 0], [0, 32767, 0, 0], [-1, 0], [-3], [-3])

    def test_held_in_each_row(self):
        # Sums of 32767 stay so from row to row, those of -32768 too.
        self.check([32767] * 16, [0] * 8, [0] * 4, [0] * 2, [0], [32767])
        self.check([-32768] * 16, [0] * 8, [0] * 4, [0] * 2, [0], [-32768])
        self.check([32767] * 8 + [-32768] * 8, [0] * 8, [0] * 4, [0] * 2, [32767], [-1])
        self.check([-32768] * 8 + [32767] * 8, [0] * 8, [0] * 4, [0] * 2, [-32768], [-1])
        self.check(([32767] * 4 + [-32768] * 4) * 2, [0] * 8, [0] * 4, [32767] * 2, [0], [-2])
        self.check(([-32768] * 2 + [32767] * 2) * 4, [0] * 8, [-32768] * 4, [0] * 2, [0], [-4])

    def test_just_not_held(self):
        # Differences 32767 and -1; sums 1 and 32767: -32766, and 32768 is held.
        self.check([16384, -16383, 16383, 16384] + [0] * 12, [32767, -1] + [0] * 6, [-32766, 0, 0, 0], [32767, 0],
                   [32767], [32767])
        self.check([-16384, 16384] + [0] * 14, [-32768] + [0] * 7, [0] * 4, [0] * 2, [0], [0])


class Shares(unittest.TestCase):
    def test_number_by_number(self):
        a = [3, -3, 1, -1, 181, 182, -182, 100, -100, 20000, -20000, 0, 5, 32767, 16384, -16384]
        b = [16384, 16384, -1, -1, 181, 181, 181, 32767, 32767, 8192, 8192, 9, 0, 32767, 2, 2]
        self.assertEqual(last(shares(a, b)), [0, 1, -2, -1, 0, 0, 1, -2, 99, -100, 5000, -5000, 0, 0, 32766, 1, -1])
        self.assertEqual(last(shares(b, a)), last(shares(a, b)))

    def test_the_least_number(self):
        # By itself it's 2^30 / 2^15 = 32768, and modulo 2^16 -32768. By 32767: -32767. By 1 and -1: -1 and 1.
        b = row_of([-32768, 32767, 1, -1, 16384, -16384, -32767, 2])
        told = [0] + row_of([-32768, -32767, -1, 1, -16384, 16384, 32767, -2])
        self.assertEqual(last(shares([-32768] * 16, b)), told)
        self.assertEqual(last(shares(b, [-32768] * 16)), told)

    def test_each_place(self):
        a = [100 * k for k in range(1, 17)]
        self.assertEqual(last(shares(a, [16384] * 16)), [0] + [50 * k for k in range(1, 17)])


class Portions(unittest.TestCase):
    def test_number_by_number(self):
        a = [1, 1, -1, -1, 64, 63, 1000, -1000, 3, -3, 32767, -1, 0, 5, 2048, 4096]
        b = [4096, 4095, 4095, 1, 64, 65, 8192, 8192, 2048, 2048, 4096, 4097, 7, 0, 2, -4096]
        self.assertEqual(last(portions(a, b)),
                         [0, 1, 0, -1, -1, 1, 0, 2000, -2000, 1, -2, 32767, -2, 0, 0, 1, -4096])

    def test_modulo_and_not_held(self):
        # 32768; 65536; -65536; 8 * 32767 = 262136 of a sign; 32767 + 7.99; 262128.0002; 40000; -40000; 98304.
        a = row_of([8192, 16384, 16384, -32768, 32767, 32767, 20000, -20000, 24576])
        b = row_of([16384, 16384, -16384, 32767, 4097, 32767, 8192, 8192, 16384])
        self.assertEqual(last(portions(a, b)), [0] + row_of([-32768, 0, 0, 8, -32762, -16, -25536, 25536, -32768]))

    def test_the_least_number(self):
        # By itself 2^30 / 2^12 = 262144 = 4 * 65536. By -4096: 32768. By 1: -8.
        b = row_of([-32768, -4096, 4096, 1, -1, 32767, -8191, 8192])
        told = [0] + row_of([0, -32768, -32768, -8, 8, 8, -8, 0])
        self.assertEqual(last(portions([-32768] * 16, b)), told)
        self.assertEqual(last(portions(b, [-32768] * 16)), told)

    def test_each_place(self):
        a = [100 * k for k in range(1, 17)]
        self.assertEqual(last(portions(a, [8192] * 16)), [0] + [200 * k for k in range(1, 17)])


class Amplify(unittest.TestCase):
    def check(self, gain, numbers, told):
        self.assertEqual(last(amplify(row_of(numbers), gain)), [0] + row_of(told))

    def test_the_eight_numbers(self):
        for gain, told in enumerate([16384, 17867, 19484, 21247, 23170, 25268, 27554, 30048]):
            self.check(gain, [16384, -16384], [told, -told])

    def test_as_it_is_and_by_doublings(self):
        self.check(0, [1, -1, 32767, -32768, 1000], [1, -1, 32767, -32768, 1000])
        self.check(8, [1, -1, 16383, 16384, -16384, -16385], [2, -2, 32766, 32767, -32768, -32768])
        # -32768 / 2, (32767 + 1) / 2; (1 + 1) / 2, (-1 + 1) / 2.
        self.check(-8, [-32768, 32767, 1, -1, 3, -3], [-16384, 16384, 1, 0, 2, -1])

    def test_the_greatest_gain(self):
        # By 30048 / 128 = 234.75, and a half: 235.25; -234.25; 32630.75; -32629.75; then held.
        self.check(63, [1, -1, 139, -139, 140, -140, 32767, -32768],
                   [235, -235, 32630, -32630, 32767, -32768, 32767, -32768])

    def test_the_least_gain(self):
        # By 1 / 256, and a half.
        self.check(-64, [127, 128, -128, -129, 32767, -32768, 16384], [0, 1, 0, -1, 128, -128, 64])

    def test_gains_between(self):
        # 1000 times 30048 / 32768, and a half: 917.49; -916.49. -32768: -30047.5. 32767: 30047.6.
        self.check(-1, [1000, -1000, -32768, 32767], [917, -917, -30048, 30047])
        # 32767 by 17867 / 16384 is held; 30000 makes 32715.45, and a half: 32715.95; -30000: -32714.95.
        self.check(1, [32767, -32768, 30000, -30000], [32767, -32768, 32715, -32715])
        # By 23170 / 32768 * 2^-3 = 23170 / 262144: 88.39 and a half; -87.9; -2895.8.
        self.check(-28, [1000, -1000, -32768], [88, -88, -2896])

    def test_each_place(self):
        self.assertEqual(last(amplify(list(range(1, 17)), 8)), [0] + list(range(2, 33, 2)))

    def test_refused(self):
        for gain in (-65, 64, -66, 65, LEAST, MOST):
            self.assertEqual(last(amplify([1] * 16, gain)), [-2])

    def test_both_ends_are_taken(self):
        self.assertEqual(ask(amplify([0] * 16, -64), amplify([0] * 16, 63)), [[0] * 17] * 2)


if __name__ == "__main__":
    unittest.main()
