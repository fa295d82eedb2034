"""loudest: which of an ear's last blocks has the greatest energy."""

import unittest

from helper import LEAST, MOST, PASS, QUIET, ask, begin, block, last, limit, loudest, row_of, sound, taps

START = [begin(), taps(0, PASS)]


def left_blocks(*rows):
    return sound(*[block(row) for row in rows])


class Loudest(unittest.TestCase):
    def test_the_last_block_alone(self):
        # 9 + 16 + 144 = 169.
        self.assertEqual(last(*START, left_blocks([100], [3, -4, 12]), loudest(0, 1)), [0, 169])

    def test_several_blocks(self):
        # Energies, from the last on: 1, 50, 900, 20, 10000.
        calls = [*START, left_blocks([100], [2, 4], [-30], [5, 5], [-1])]
        expected = [[0, 1], [1, 50], [2, 900], [2, 900], [4, 10000], [4, 10000]]
        self.assertEqual(ask(*calls, *[loudest(0, n) for n in range(1, 7)])[-6:], expected)

    def test_the_latest_of_several(self):
        # Energies, from the last on: 1, 25, 25, 24, 25: 5, then 3 and 4, then 2, 2, 4, then -5.
        calls = [*START, left_blocks([-5], [2, 2, 4], [3, 4], [5], [1])]
        self.assertEqual([told for told in ask(*calls, *[loudest(0, n) for n in range(1, 6)])[-5:]],
                         [[0, 1], [1, 25], [1, 25], [1, 25], [1, 25]])
        self.assertEqual(last(*START, left_blocks([5], [5]), loudest(0, 2)), [0, 25])
        self.assertEqual(last(*START, left_blocks([5], [4]), loudest(0, 2)), [1, 25])

    def test_all_sixteen_numbers_count(self):
        # 1 + 4 + 9 + .. + 256 = 16 * 17 * 33 / 6.
        row = [k * (-1) ** k for k in range(1, 17)]
        self.assertEqual(last(*START, left_blocks(row), loudest(0, 1)), [0, 1496])

    def test_energy_and_not_the_greatest_number(self):
        # Sixteen times 81 = 1296 is more than 35 * 35 = 1225, and 36 * 36 = 1296 is not.
        self.assertEqual(last(*START, left_blocks([9] * 16, [35]), loudest(0, 2)), [1, 1296])
        self.assertEqual(last(*START, left_blocks([9] * 16, [-36]), loudest(0, 2)), [0, 1296])

    def test_the_greatest_energy_there_is(self):
        # 16 * 32767 * 32767: two numbers of 32767 by taps of 32767 are held at 32767.
        calls = [begin(), taps(0, row_of([32767, 32767])), left_blocks([32767] * 16, [32767] * 16)]
        self.assertEqual(last(*calls, loudest(0, 1)), [0, 17178820624])
        calls = [begin(), taps(0, row_of([32767, 32767])), left_blocks([-32768] * 16, [-32768] * 16)]
        self.assertEqual(last(*calls, loudest(0, 1)), [0, 17178820624])

    def test_what_was_put_out_and_not_what_came_in(self):
        calls = [*START, limit(0, 10), left_blocks([1000, 1000, 10]), limit(0, 100), left_blocks([17])]
        self.assertEqual(last(*calls, loudest(0, 2)), [1, 300])

    def test_each_ear_by_itself(self):
        calls = [*START, sound(block([1], (), [9]), block([7], (), [-2]))]
        self.assertEqual(ask(*calls, loudest(0, 2), loudest(1, 2), loudest(1, 1))[-3:], [[0, 49], [1, 81], [0, 4]])

    def test_no_sound_yet(self):
        for ear in (0, 1):
            for n in (1, 2, 255, 256):
                self.assertEqual(last(begin(), loudest(ear, n)), [0, 0])

    def test_quiet_blocks(self):
        self.assertEqual(last(*START, sound(QUIET, QUIET, QUIET), loudest(0, 3)), [0, 0])

    def test_blocks_before_the_first_have_no_energy(self):
        self.assertEqual(last(*START, left_blocks([4], []), loudest(0, 256)), [1, 16])


class Far(unittest.TestCase):
    def test_255_blocks_ago(self):
        calls = [*START, left_blocks([6]), *[sound(*[QUIET] * 51)] * 5]
        self.assertEqual(ask(*calls, loudest(0, 256), loudest(0, 255))[-2:], [[255, 36], [0, 0]])

    def test_256_blocks_ago_is_gone(self):
        calls = [*START, left_blocks([6], [5]), *[sound(*[QUIET] * 51)] * 5]
        self.assertEqual(ask(*calls, loudest(0, 256), loudest(0, 255))[-2:], [[255, 25], [0, 0]])

    def test_begin_again_forgets(self):
        self.assertEqual(last(*START, left_blocks([6], [5]), begin(), loudest(0, 256)), [0, 0])


class Refused(unittest.TestCase):
    def test_an_ear_that_there_is_not(self):
        for ear in (-1, 2, LEAST, MOST):
            for n in (1, 256, 0):
                self.assertEqual(last(*START, left_blocks([6]), loudest(ear, n)), [-2])

    def test_n_out_of_its_range(self):
        for n in (0, -1, 257, LEAST, MOST):
            for ear in (0, 1):
                self.assertEqual(last(*START, left_blocks([6]), loudest(ear, n)), [-2])


if __name__ == "__main__":
    unittest.main()
