"""Step 10: the tone for trying an ear."""

import unittest

from helper import PASS, QUIET, begin, block, both, left, right, sound, taps, tone

# Of a step of 4096, the wave is -32768, -24576, .. 24576, 32767 (held), 24576, .. -24576; this is the half of it.
HALF_WAVE = [-16384, -12288, -8192, -4096, 0, 4096, 8192, 12288, 16383, 12288, 8192, 4096, 0, -4096, -8192, -12288]


class Tone(unittest.TestCase):
    def test_none_behind_begin(self):
        self.assertEqual(both(begin(), sound(QUIET)), ([0] * 16, [0] * 16))

    def test_the_wave_by_a_half(self):
        self.assertEqual(left(begin(), tone(0, 4096, 16384), sound(QUIET)), HALF_WAVE)

    def test_sixteen_steps_of_4096_come_round(self):
        self.assertEqual(left(begin(), tone(0, 4096, 16384), sound(QUIET, QUIET)), HALF_WAVE * 2)

    def test_the_greatest_strength(self):
        # By 32767: -32768 is -32767; -24576 is -24575.25, so -24576; 24576 is 24575.25; 32767 is 32766.00003.
        self.assertEqual(left(begin(), tone(0, 4096, 32767), sound(QUIET)),
                         [-32767, -24576, -16384, -8192, 0, 8191, 16383, 24575, 32766,
                          24575, 16383, 8191, 0, -8192, -16384, -24576])

    def test_strength_one_rounds_down(self):
        self.assertEqual(left(begin(), tone(0, 4096, 1), sound(QUIET)), [-1] * 4 + [0] * 9 + [-1] * 3)

    def test_strength_zero(self):
        self.assertEqual(left(begin(), tone(0, 4096, 0), sound(QUIET)), [0] * 16)

    def test_step_zero_stays_at_its_phase(self):
        self.assertEqual(left(begin(), tone(0, 0, 16384), sound(QUIET, QUIET)), [-16384] * 32)

    def test_step_one_goes_on_from_block_to_block(self):
        # 2 n - 32768, by 32767: -32767, then 2 n - 32768 + 1 - n / 16384, rounded down.
        expected = [-32767] + [2 * n - 32768 for n in range(1, 48)]
        self.assertEqual(left(begin(), tone(0, 1, 32767), sound(QUIET, QUIET, QUIET)), expected)
        self.assertEqual(left(begin(), tone(0, 1, 32767), sound(QUIET), sound(QUIET), sound(QUIET)), expected[32:])

    def test_the_greatest_step_goes_backwards(self):
        # -n, of the same size.
        expected = [-32767] + [2 * n - 32768 for n in range(1, 48)]
        self.assertEqual(left(begin(), tone(0, 65535, 32767), sound(QUIET, QUIET, QUIET)), expected)

    def test_half_way_round(self):
        # -32768, of size 32768: doubled, less 32768, it's 32768, held at 32767.
        self.assertEqual(left(begin(), tone(0, 32768, 32767), sound(QUIET)), [-32767, 32766] * 8)

    def test_on_both_sides_of_half_way(self):
        # 32767: 32766. 65534: 4 - 32768. 98301 - 65536 = 32765: 32762. All by 16384: halves.
        self.assertEqual(left(begin(), tone(0, 32767, 16384), sound(QUIET))[:4], [-16384, 16383, -16382, 16381])
        self.assertEqual(left(begin(), tone(0, 32769, 16384), sound(QUIET))[:4], [-16384, 16383, -16382, 16381])

    def test_the_phase_goes_on_by_sixteen_steps(self):
        # 16 * 6144 = 98304, and 32768 modulo 65536.
        row = left(begin(), tone(0, 6144, 16384), sound(QUIET, QUIET))
        self.assertEqual(row[:4], [-16384, -10240, -4096, 2048])
        self.assertEqual(row[16:20], [16383, 10240, 4096, -2048])

    def test_the_phase_stays_when_the_step_is_set(self):
        # 16 * 1024 = 16384: the wave is 0 there, then each 4096 has 8192 more, by a half.
        row = left(begin(), tone(0, 1024, 0), sound(QUIET), tone(0, 4096, 16384), sound(QUIET))
        self.assertEqual(row, HALF_WAVE[4:] + HALF_WAVE[:4])

    def test_for_one_ear(self):
        self.assertEqual(both(begin(), tone(0, 4096, 16384), sound(QUIET)), (HALF_WAVE, [0] * 16))
        self.assertEqual(both(begin(), tone(1, 4096, 16384), sound(QUIET)), ([0] * 16, HALF_WAVE))
        self.assertEqual(right(begin(), tone(0, 1024, 16384), tone(1, 4096, 16384), sound(QUIET, QUIET)), HALF_WAVE * 2)

    def test_added_to_the_sound(self):
        row = left(begin(), taps(0, PASS), tone(0, 4096, 16384), sound(block([1000] * 16)))
        self.assertEqual(row, [x + 1000 for x in HALF_WAVE])

    def test_held_with_the_sound(self):
        # 16384 and the wave by 32767, where it's above 16383 and where it's below.
        row = left(begin(), taps(0, PASS), tone(0, 4096, 32767), sound(block([16384] * 16)))
        self.assertEqual(row[:9], [-16383, -8192, 0, 8192, 16384, 24575, 32767, 32767, 32767])
        row = left(begin(), taps(0, PASS), tone(0, 4096, 32767), sound(block([-16383] * 16)))
        self.assertEqual(row[:4], [-32767, -32767, -32767, -24575])


if __name__ == "__main__":
    unittest.main()
