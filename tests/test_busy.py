"""Step 5: how busy it is, and the scene, seen by the gain that steady noise lessens."""

import unittest

from softhear.hearing import scene

from helper import PASS, at, begin, block, both, couple, left, row_of, sound, taps, turn

# In scene 1 the gain is -64, and x comes out as (x + 128) / 256; else it comes out as it is.
START = [begin(), taps(0, PASS), couple(0, 64)]
STEADY = 1
OTHER = 0


def seen(*rows):
    """For each block of front numbers: was its scene 1? Seen by its last number that isn't small."""
    told = left(*START, sound(*[block(row) for row in rows]))
    scenes = []
    for start, row in zip(range(0, len(told), 16), rows):
        whole = row_of(row)
        place = max(k for k in range(16) if 128 < abs(whole[k]) < 16384)
        number = told[start + place]
        if number not in (whole[place], (whole[place] + 128) // 256):
            raise AssertionError(number)
        scenes.append(OTHER if number == whole[place] else STEADY)
    return scenes


class Scene(unittest.TestCase):
    def test_by_the_four_numbers(self):
        for busy, expected in [([0, 0, 0, 0], 0), ([15, 16, 16, 16], 0), ([0, 0, 0, 63], 0), ([16, 16, 16, 16], 1),
                               ([0, 0, 0, 64], 1), ([64, 0, 0, 0], 1), ([0, 65, 0, 0], 2), ([16, 20, 96, 30], 1),
                               ([97, 20, 30, 16], 2), ([1000, 1000, 2064, 1000], 1), ([1000, 2065, 1000, 1000], 2)]:
            self.assertEqual(scene(busy), expected)

    def test_what_the_scenes_put_out(self):
        # 255 alone at moment 0: all differences' sums are 255, 255 / 16 = 15, together 60: scene 0.
        self.assertEqual(left(*START, sound(block([255]))), row_of([255]))
        # 256: 16 each, together 64, and 16 is at most 2 * 16 + 64: scene 1. 384 / 256 = 1.5.
        self.assertEqual(left(*START, sound(block([256]))), row_of([1]))
        # -1000: 62 each. -872 / 256 = -3.4.
        self.assertEqual(left(*START, sound(block([-1000]))), row_of([-4]))

    def test_below_64_together(self):
        # Of a, b: |a - b|, then |a + b| thrice. 254 and 256: 15 + 16 + 16 + 16 = 63.
        self.assertEqual(seen([255, 1]), [OTHER])
        # 256 each: 64.
        self.assertEqual(seen([256, 0]), [STEADY])

    def test_twice_the_least_and_64_the_first_number_least(self):
        # 256 and 1536: 16 and 96, 96 = 2 * 16 + 64.
        self.assertEqual(seen([896, 640]), [STEADY])
        # 256 and 1552: 16 and 97.
        self.assertEqual(seen([904, 648]), [OTHER])

    def test_twice_the_least_and_64_the_first_number_greatest(self):
        self.assertEqual(seen([896, -640]), [STEADY])
        self.assertEqual(seen([904, -648]), [OTHER])

    def test_twice_the_least_and_64_the_least_is_0(self):
        # 0 and 1024: 0 and 64; 0 and 1040: 0 and 65.
        self.assertEqual(seen([512, 512]), [STEADY])
        self.assertEqual(seen([520, 520]), [OTHER])

    def test_each_of_the_four_may_be_the_greatest_or_the_least(self):
        # One number alone is that big in each of the four; pairs that cancel one another take one away.
        # a, a: 0 in the first. a, 0, a: 0 in the second, twice as much in the first. a at 0 and 4: in the
        # third. a at 0 and 8: in the last. 2080 / 16 = 130 is more than 64.
        for place in (1, 2, 4, 8):
            self.assertEqual(seen(at({0: 2080, place: 2080})), [OTHER])
        # a at 0 and -a there: twice as much in that one, none behind it.
        for place in (1, 2, 4):
            self.assertEqual(seen(at({0: 2080, place: -2080})), [OTHER])
        # -a at 8: each is 260.
        self.assertEqual(seen(at({0: 2080, 8: -2080})), [STEADY])

    def test_all_places_count(self):
        for place in range(16):
            self.assertEqual(seen(at({place: 256})), [STEADY])
            self.assertEqual(seen(at({place: 255})), [OTHER])

    def test_sizes_are_summed(self):
        # a, 0, 0, a: differences a and -a, so 2 a in the first; 0 in the second; 2 a in the third and the last.
        # 20, 0, 20, 20: 60 together.
        self.assertEqual(seen([160, 0, 0, 160]), [OTHER])
        # 22, 0, 22, 22: 66.
        self.assertEqual(seen([176, 0, 0, 176]), [STEADY])
        # 65, 0, 65, 65.
        self.assertEqual(seen([520, 0, 0, 520]), [OTHER])

    def test_each_has_added_a_sixteenth_of_the_difference(self):
        # 160: 10 each; (160 - 10) / 16 = 9.4: 19 each: 76 together.
        self.assertEqual(seen([160], [160]), [OTHER, STEADY])
        # 136: 8; 8 more: 16.
        self.assertEqual(seen([136], [136]), [OTHER, STEADY])
        # 135: 8; 7 more: 15; 7 more: 22.
        self.assertEqual(seen([135], [135], [135]), [OTHER, OTHER, STEADY])

    def test_divisions_of_differences_below_0_round_down(self):
        steady = [1000] * 16
        # 288: 18. Sixteen equal numbers have no differences: -18 / 16 = -1.1, so -2: 16; then -1: 15.
        self.assertEqual(seen([288], steady, steady), [STEADY, STEADY, OTHER])
        # 272: 17; -17 / 16 is -2: 15.
        self.assertEqual(seen([272], steady), [STEADY, OTHER])

    def test_they_come_back_to_0(self):
        steady = [1000] * 16
        # From 16 down by one a block (-1 / 16 is -1 too), so 16 blocks to 0, and there they stay: then 256
        # takes them to 16 again, and 255 would not.
        self.assertEqual(seen([256], *[steady] * 20, [256]), [STEADY] + [OTHER] * 20 + [STEADY])
        self.assertEqual(seen([256], *[steady] * 20, [255]), [STEADY] + [OTHER] * 21)

    def test_least_number_has_the_greatest_size(self):
        # The first difference is -32768, of size 32767; the second 16: 32783 / 16 = 2048.9, so 2048, where
        # 32768 would make 2049. Then -32768 + 16896 = -15872, each time again since sums are held: 992.
        # 2 * 992 + 64 = 2048.
        row = [-32768, 0, -8440, -8456] + [-4224] * 4 + [-2112] * 8
        self.assertEqual(seen(row), [STEADY])
        # The second difference 32: 32799 / 16 = 2049.9.
        row = [-32768, 0, -8432, -8464] + [-4224] * 4 + [-2112] * 8
        self.assertEqual(seen(row), [OTHER])

    def test_differences_are_held(self):
        # 65535 is held at 32767: 2047, and 4095 would be too much. -1 + 16000, -16001, -16001: 999, 1000, 1000.
        self.assertEqual(seen([32767, -32768, -8000, -8000]), [STEADY])
        # -65535 is held at -32768, of size 32767.
        self.assertEqual(seen([-32768, 32767, -8000, -8000]), [STEADY])

    def test_sums_are_held(self):
        # 51134 is held at 32767, three times: less 18367 it's 14400, and 900 each. Not held it would be
        # 32767 and 2047, more than 2 * 900 + 64.
        row = [32767, 18367, 9184, 9183, 4592, 4592, 4592, 4591] + [2296] * 7 + [2295]
        self.assertEqual(seen(row), [STEADY])
        # Below 0: -32768 + 18367 = -14401.
        self.assertEqual(seen([-32768] + [-x for x in row[1:]]), [STEADY])

    def test_by_turned_numbers(self):
        # The front is 0 throughout; the back's -512 by a half makes 256 of it.
        self.assertEqual(left(*START, turn(0, 0, 16384), sound(block((), [-512]))), row_of([1]))

    def test_each_ear_has_its_own_scene(self):
        # Left: 16 each. Right: 0 and 65.
        rows = both(*START, sound(block([256], (), [520, 520])))
        self.assertEqual(rows, (row_of([1]), row_of([520, 520])))
        rows = both(*START, sound(block([520, 520], (), [256])))
        self.assertEqual(rows, (row_of([520, 520]), row_of([1])))

    def test_busy_goes_on_from_call_to_call(self):
        self.assertEqual(left(*START, sound(block([136])), sound(block([136]))), row_of([1]))

    def test_busy_goes_on_without_taps(self):
        self.assertEqual(left(begin(), couple(0, 64), sound(block([136])), taps(0, PASS), sound(block([136]))),
                         row_of([1]))


if __name__ == "__main__":
    unittest.main()
