"""save: all that's set, as bytes."""

import unittest

from helper import (ATTACK, BEGUN, COUPLED, DELAY, EARS, HALF, LESSEN, LIMIT, MOST, PART, QUIET, RATE, RELEASE, STEP,
                    STRENGTH, WAY, ask, begin, block, couple, echo, flat, gains, joined, kept, last, limit, row_of,
                    save, sound, sound_of, taps, times, tone, trim, turn)


class Save(unittest.TestCase):
    def check(self, calls, changes):
        self.assertEqual(last(begin(), *calls, save()), [0] + kept(changes))

    def test_behind_begin(self):
        told = last(begin(), save())
        self.assertEqual(len(told), 543)
        # 255 + 127 + 4, and twice 16 + 255 + 127: 1182 = 4 * 256 + 158.
        self.assertEqual(told, [0] + BEGUN + [158, 4])

    def test_taps(self):
        self.check([taps(0, HALF)], {0: [0, 64]})
        self.check([taps(0, list(range(1, 17)))], {0: joined([[k, 0] for k in range(1, 17)])})
        for band in range(8):
            self.check([taps(band, [-1, 258, -32768] + [0] * 12 + [32508])],
                       {32 * band: [255, 255, 2, 1, 0, 128], 32 * band + 30: [252, 126]})

    def test_times(self):
        self.check([times(0, 0)], {ATTACK: [0, 0], RELEASE: [0, 0]})
        self.check([times(258, 32767)], {ATTACK: [2, 1], RELEASE: [255, 127]})

    def test_couple(self):
        self.check([couple(1, 0)], {COUPLED: [1], LESSEN: [0]})
        self.check([couple(1, 64)], {COUPLED: [1], LESSEN: [64]})
        self.check([couple(0, 7)], {COUPLED: [0], LESSEN: [7]})

    def test_gains_with_signs(self):
        row = [-64, -63, -1, 0, 1, 63, -2, 2, -32, 32, 5, 6, 7, -8, -9, -10]
        told = [192, 193, 255, 0, 1, 63, 254, 2, 224, 32, 5, 6, 7, 248, 247, 246]
        for ear in (0, 1):
            for band in range(8):
                self.check([gains(ear, band, row)], {EARS[ear] + 16 * band: told})

    def test_flat(self):
        for ear, band, gain, byte in [(0, 0, 63, 63), (0, 7, -64, 192), (1, 0, -1, 255), (1, 7, 1, 1), (1, 3, 0, 0)]:
            self.check([flat(ear, band, gain)], {EARS[ear] + 16 * band: [byte] * 16})

    def test_trim(self):
        self.check([trim(0, [1, -1, MOST])], {EARS[0]: [1] * 16 + [255] * 16 + [63] * 16})
        self.check([trim(1, [0, 0, 0, 0, 0, 0, 0, -100])], {EARS[1] + 112: [192] * 16})
        self.check([gains(1, 2, list(range(-8, 8))), trim(1, [0, 0, 3])],
                   {EARS[1] + 32: [251, 252, 253, 254, 255, 0, 1, 2, 3, 4, 5, 6, 7, 8, 9, 10]})
        self.check([trim(0, [])], {})

    def test_turn(self):
        for ear in (0, 1):
            self.check([turn(ear, 7, 32767)], {EARS[ear] + DELAY: [7], EARS[ear] + PART: [255, 127]})
            self.check([turn(ear, 3, 515)], {EARS[ear] + DELAY: [3, 3, 2]})

    def test_echo(self):
        for ear in (0, 1):
            self.check([echo(ear, 255, 254)], {EARS[ear] + WAY: [255], EARS[ear] + RATE: [254]})
            self.check([echo(ear, 17, 255)], {EARS[ear] + WAY: [17, 255]})

    def test_limit(self):
        for ear in (0, 1):
            self.check([limit(ear, 0)], {EARS[ear] + LIMIT: [0, 0]})
            self.check([limit(ear, 256 * 9 + 200)], {EARS[ear] + LIMIT: [200, 9]})

    def test_tone(self):
        for ear in (0, 1):
            self.check([tone(ear, 65535, 32767)], {EARS[ear] + STEP: [255, 255], EARS[ear] + STRENGTH: [255, 127]})
            self.check([tone(ear, 32768, 1)], {EARS[ear] + STEP: [0, 128, 1, 0]})

    def test_all_of_it_in_order(self):
        # Each band's first tap is its number and 1, each ear's gains are their band's number.
        calls = [taps(band, row_of([band + 1])) for band in range(8)]
        calls += [times(1, 2), couple(1, 3)]
        for ear in (0, 1):
            calls += [flat(ear, band, 10 * ear + band) for band in range(8)]
            calls += [turn(ear, 4 + ear, 6 + ear), echo(ear, 18 + ear, 20 + ear), limit(ear, 22 + ear),
                      tone(ear, 24 + ear, 26 + ear)]
        expected = joined([[band + 1] + [0] * 31 for band in range(8)]) + [1, 0, 2, 0, 1, 3]
        expected += joined([[band] * 16 for band in range(8)]) + [4, 6, 0, 18, 20, 22, 0, 24, 0, 26, 0]
        expected += joined([[10 + band] * 16 for band in range(8)]) + [5, 7, 0, 19, 21, 23, 0, 25, 0, 27, 0]
        # 36 + 7; 16 * 28 + 120; 16 * 108 + 127: 2466 = 9 * 256 + 162.
        self.assertEqual(last(begin(), *calls, save()), [0] + expected + [162, 9])

    def test_the_last_that_was_set(self):
        self.check([limit(0, 5), limit(0, 6), taps(1, HALF), taps(1, [0] * 16), flat(1, 1, 5), gains(1, 1, [6] * 16)],
                   {EARS[0] + LIMIT: [6, 0], EARS[1] + 16: [6] * 16})


class Sum(unittest.TestCase):
    def test_at_65535_and_65536(self):
        # Taps of -1: 256 times 255 = 65280. Both ways: 32. The rate makes it full.
        start = [begin(), *[taps(band, [-1] * 16) for band in range(8)], times(0, 0), limit(0, 0), limit(1, 0)]
        self.assertEqual(last(*start, save())[-2:], [32, 255])
        self.assertEqual(last(*start, echo(0, 16, 223), save())[-2:], [255, 255])
        self.assertEqual(last(*start, echo(0, 16, 224), save())[-2:], [0, 0])
        self.assertEqual(last(*start, echo(0, 16, 225), save())[-2:], [1, 0])

    def test_far_past_65535(self):
        # Gains of -1 too: twice 65280 and 1182 make 131742 = 2 * 65536 + 670.
        calls = [taps(band, [-1] * 16) for band in range(8)]
        calls += [flat(ear, band, -1) for ear in (0, 1) for band in range(8)]
        self.assertEqual(last(begin(), *calls, save())[-2:], [158, 2])


class Same(unittest.TestCase):
    SET = [begin(), taps(2, HALF), echo(0, 20, 200), tone(1, 500, 600), couple(1, 5)]

    def test_what_is_heard_is_not_saved(self):
        loud = sound(*[block([5000, -300] * 8, [70] * 16, [900] * 16, [1] * 16)] * 5)
        self.assertEqual(last(*self.SET, loud, save()), last(*self.SET, save()))

    def test_saving_changes_nothing(self):
        told = ask(*self.SET, sound(block([100])), save(), save(), sound(QUIET))
        self.assertEqual(told[-3], told[-2])
        self.assertEqual(told[-1], last(*self.SET, sound(block([100])), sound(QUIET)))

    def test_begin_again(self):
        self.assertEqual(last(*self.SET, begin(), save()), [0] + kept({}))

    def test_what_was_refused_is_not_saved(self):
        calls = [taps(0, [32767] * 16), taps(8, HALF), times(5, -1), couple(1, 65), couple(2, 5),
                 gains(0, 0, [9] * 15 + [64]), flat(0, 0, 64), flat(2, 0, 9), trim(-1, [9]), turn(0, 3, 32768),
                 turn(0, 8, 3), echo(1, 15, 9), echo(1, 99, 256), limit(1, 32768), tone(0, 65536, 9),
                 tone(0, 9, 32768), sound_of(0, [])]
        self.assertEqual(last(begin(), *calls, save()), [0] + kept({}))


if __name__ == "__main__":
    unittest.main()
