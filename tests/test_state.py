"""levels and state: what an ear has heard, told in numbers."""

import unittest

from helper import (LEAST, MOST, OPPOSITE, PASS, QUIET, ask, at, begin, block, couple, echo, joined, last, levels,
                    limit, sound, state, taps, times, tone, turn)

# 32000 makes 1000 in band 0, 2000 in band 1, .. 8000 in band 7; -16000 makes -500, -1000, .. -4000.
BANDS = [begin(), *[taps(band, at({band: 1024 * (band + 1)})) for band in range(8)]]
START = [begin(), taps(0, PASS)]
NEW = [0] * 15


class Levels(unittest.TestCase):
    # The share of a peak by attack, 32767, is one less.
    LEFT = [999, 1999, 2999, 3999, 4999, 5999, 6999, 7999]
    RIGHT = [499, 999, 1499, 1999, 2499, 2999, 3499, 3999]

    def test_the_first_n_bands(self):
        calls = [*BANDS, sound(block([32000], (), [-16000]))]
        for n in range(9):
            self.assertEqual(last(*calls, levels(0, n)), [0] + self.LEFT[:n])
            self.assertEqual(last(*calls, levels(1, n)), [0] + self.RIGHT[:n])

    def test_no_sound_yet(self):
        for ear in (0, 1):
            for n in range(9):
                self.assertEqual(last(begin(), levels(ear, n)), [0] * (n + 1))

    def test_behind_a_second_block(self):
        # Each less a 32nd of it, rounded down: 31, 62, 93, 124, 156, 187, 218, 249.
        calls = [*BANDS, sound(block([32000], (), [-16000]), QUIET)]
        self.assertEqual(last(*calls, levels(0, 8)), [0, 968, 1937, 2906, 3875, 4843, 5812, 6781, 7750])
        # 15, 31, 46, 62, 78, 93, 109, 124.
        self.assertEqual(last(*calls, levels(1, 8)), [0, 484, 968, 1453, 1937, 2421, 2906, 3390, 3875])

    def test_by_attack_and_release(self):
        # A half of 1001: 500; 250 more of 501, then a quarter of 750 - 2 less, 187.
        calls = [*START, times(16384, 8192), sound(block([1001])), levels(0, 1), sound(block([1001])), levels(0, 1),
                 sound(block([2])), levels(0, 1)]
        self.assertEqual([each for each in ask(*calls) if len(each) == 2], [[0, 500], [0, 750], [0, 563]])

    def test_coupled_each_ear_still_tells_its_own(self):
        calls = [*BANDS, couple(1, 0), sound(block([32000], (), [-16000]))]
        self.assertEqual(ask(*calls, levels(0, 8), levels(1, 8))[-2:], [[0] + self.LEFT, [0] + self.RIGHT])

    def test_the_greatest_level(self):
        # 32767 and again: held at 32767, and the share of it 32766; then of 1 nothing.
        calls = [begin(), taps(0, [32767, 32767] + [0] * 14), sound(*[block([32767] * 16)] * 3)]
        self.assertEqual(last(*calls, levels(0, 2)), [0, 32766, 0])

    def test_begin_again_forgets(self):
        self.assertEqual(last(*BANDS, sound(block([32000])), begin(), levels(0, 8)), [0] * 9)

    def test_refused(self):
        for ear in (-1, 2, LEAST, MOST):
            for n in (0, 8, 9):
                self.assertEqual(last(*BANDS, sound(block([32000])), levels(ear, n)), [-2])
        for n in (-1, 9, LEAST, MOST):
            for ear in (0, 1):
                self.assertEqual(last(*BANDS, sound(block([32000])), levels(ear, n)), [-2])


class State(unittest.TestCase):
    def test_no_sound_yet(self):
        self.assertEqual(ask(begin(), state(0), state(1)), [[0], NEW, NEW])

    def test_what_is_set_is_not_told(self):
        calls = [begin(), echo(0, 200, 255), tone(0, 9999, 99), couple(1, 64), limit(0, 5), turn(0, 7, 7)]
        self.assertEqual(last(*calls, state(0)), NEW)

    def test_weights(self):
        # Ones are put out; in block 2 weight i meets 16 - i of them. Sixteen equal numbers have no differences.
        steady = [block([1000] * 16, (), [-9] * 16)] * 2
        calls = [*START, limit(0, 1), limit(1, 1), echo(0, 16, 255), echo(1, 16, 2), sound(*steady)]
        told = [0, 4080, 3825, 3570, 3315, 3060, 2805, 2550, 2295, 0, 0, 0, 0, 0, 0]
        self.assertEqual(last(*calls, state(0)), told)
        self.assertEqual(last(*calls, state(1)), [0, 32, 30, 28, 26, 24, 22, 20, 18, 0, 0, 0, 0, 0, 0])

    def test_weights_below_0_and_at_their_ends(self):
        calls = [begin(), taps(0, OPPOSITE), limit(0, 1), echo(0, 16, 255)]
        told = last(*calls, sound(*[block([-1000] * 16)] * 2), state(0))
        self.assertEqual(told[:9], [0, -4080, -3825, -3570, -3315, -3060, -2805, -2550, -2295])
        self.assertEqual(last(*calls, sound(*[block([-1000] * 16)] * 5), state(0))[:9], [0] + [-8191] * 8)
        calls = [*START, limit(0, 1), echo(0, 16, 255), sound(*[block([1000] * 16)] * 5)]
        self.assertEqual(last(*calls, state(0))[:9], [0] + [8191] * 8)

    def test_how_busy_in_order(self):
        # The eight differences: 1600 - 320, 160, .. 80: 1520 and 95. The four: 1920 - 160, .. 80: 1840 and 115.
        # The two: 2080, 80: 2160 and 135. The one: 2080 - 80: 2000 and 125. At most 2 * 95 + 64: scene 1.
        row = at({0: 1600, 1: 320, 2: 160, 8: 80})
        self.assertEqual(last(*START, sound(block(row)), state(0)), [0] * 9 + [95, 115, 135, 125, 1, 0])
        self.assertEqual(last(*START, sound(block((), (), row)), state(1)), [0] * 9 + [95, 115, 135, 125, 1, 0])
        self.assertEqual(last(*START, sound(block((), (), row)), state(0)), NEW)

    def test_the_three_scenes(self):
        for row, told in [([255], [15, 15, 15, 15, 0]), ([255, 1], [15, 16, 16, 16, 0]),
                          ([256], [16, 16, 16, 16, 1]), ([512, 512], [0, 64, 64, 64, 1]),
                          ([520, 520], [0, 65, 65, 65, 2]), ([896, 640], [16, 96, 96, 96, 1]),
                          ([904, 648], [16, 97, 97, 97, 2])]:
            self.assertEqual(last(begin(), sound(block(row)), state(0)), [0] * 9 + told + [0])

    def test_busy_goes_on(self):
        # 288: 18 each. Then no differences: -18 / 16 is -2, so 16; then 15; then 256 adds 241 / 16 = 15.
        steady = block([1000] * 16)
        calls = [begin(), sound(block([288])), state(0), sound(steady), state(0), sound(steady), state(0),
                 sound(block([256])), state(0)]
        told = [each[9:14] for each in ask(*calls) if len(each) == 15]
        self.assertEqual(told, [[18] * 4 + [1], [16] * 4 + [1], [15] * 4 + [0], [30] * 4 + [1]])

    def test_busy_is_more_than_sixteen_bits(self):
        # Eight differences of 65535, each held at 32767: 262136, / 16 = 16383.5; sums of -1 have none. Then
        # (262136 - 16383) / 16 = 15359.6, and so on to 31742 + (262136 - 31742) / 16 = 14399.6: 46141.
        loud = block([32767, -32768] * 8)
        calls = [begin(), sound(loud), state(0), sound(loud), state(0), sound(loud), state(0)]
        self.assertEqual([each[9:14] for each in ask(*calls) if len(each) == 15],
                         [[16383, 0, 0, 0, 2], [31742, 0, 0, 0, 2], [46141, 0, 0, 0, 2]])

    def test_the_phase(self):
        # 16 * 1000 a block, modulo 65536; it has no sign.
        calls = [begin(), tone(0, 1000, 5), *joined([[sound(QUIET), state(0)]] * 5)]
        self.assertEqual([each[14] for each in ask(*calls) if len(each) == 15], [16000, 32000, 48000, 64000, 14464])

    def test_the_phase_of_the_greatest_step(self):
        calls = [begin(), tone(1, 65535, 0), sound(QUIET), state(1), sound(QUIET), state(1), state(0)]
        self.assertEqual([each[14] for each in ask(*calls) if len(each) == 15], [65520, 65504, 0])

    def test_the_phase_goes_by_the_step_of_each_block(self):
        calls = [begin(), tone(0, 100, 5), sound(QUIET, QUIET), tone(0, 1, 0), sound(QUIET), state(0)]
        self.assertEqual(last(*calls), [0] * 14 + [3216])
        # Half way round: 16 * 2048.
        self.assertEqual(last(begin(), tone(0, 2048, 5), sound(QUIET), state(0)), [0] * 14 + [32768])

    def test_begin_again_forgets(self):
        calls = [*START, echo(0, 16, 9), tone(0, 7, 7), sound(*[block([900, -3])] * 3), begin(), state(0), state(1)]
        self.assertEqual(ask(*calls)[-2:], [NEW, NEW])

    def test_refused(self):
        for ear in (-1, 2, LEAST, MOST):
            self.assertEqual(last(begin(), state(ear)), [-2])
            self.assertEqual(last(*START, sound(block([900])), state(ear)), [-2])


if __name__ == "__main__":
    unittest.main()
