"""sound: blocks one after another, and all the steps in one worked example."""

import unittest

from helper import (HALF, LEAST, MOST, PASS, QUIET, ask, at, begin, block, both, couple, echo, gains, joined, left,
                    levels, limit, row_of, sound, sound_of, state, taps, times, tone, turn)


class Form(unittest.TestCase):
    def test_in_by_ears_and_microphones_out_by_ears(self):
        numbers = list(range(1, 65))
        told = ask(begin(), taps(0, PASS), turn(0, 0, 16384), sound(numbers))[-1]
        # Left, moment k: 4 k + 1 less half of 4 k + 2. Right: 4 k + 3.
        self.assertEqual(told, [0] + joined([[2 * k, 4 * k + 3] for k in range(16)]))

    def test_block_by_block(self):
        first = block([1000, 2], (), [-7])
        second = block([], (), [5, -6])
        told = ask(begin(), taps(0, PASS), sound(first, second))[-1]
        self.assertEqual(told, [0] + row_of([1000, -7, 2], 32) + row_of([0, 5, 0, -6], 32))

    def test_refused_n(self):
        for n in (0, 65, -1, 66, 4096, -64, LEAST, MOST):
            self.assertEqual(ask(begin(), sound_of(n, [])), [[0], [-2]])

    def test_a_refused_sound_is_not_heard(self):
        # A tone that went on, or a block kept, would be seen.
        start = [begin(), taps(0, row_of([0, 32767])), tone(0, 1000, 16384), sound(block(at({15: 700})))]
        for n in (0, 65, -1):
            told = ask(*start, sound_of(n, []), sound(QUIET))
            self.assertEqual(told[-2], [-2])
            # Phase 16000 has the wave -768, and its half is added to 700.
            self.assertEqual(told[-1][1], 700 - 384)

    def test_the_greatest_n(self):
        told = ask(begin(), taps(0, PASS), sound(*blocks_numbered(64)))[-1]
        self.assertEqual(told, [0] + joined([row_of([k + 1, -k], 32) for k in range(64)]))

    def test_the_least_n(self):
        self.assertEqual(ask(begin(), taps(0, PASS), sound(block([9])))[-1], [0] + row_of([9], 32))


def blocks_numbered(how_many):
    return [block([k + 1], (), [-k]) for k in range(how_many)]


class OneAfterAnother(unittest.TestCase):
    # All that is kept is in play: echo, back numbers, turned ones, levels, busy, phase.
    START = [begin(), taps(0, row_of([9000, 8000, -7000, 0, 0, 0, 0, 0, 0, 0, 0, 0, 0, 0, 0, 6000])), taps(5, HALF),
             times(20000, 9000), couple(1, 5), gains(0, 0, [40 - 3 * k for k in range(16)]),
             gains(1, 5, [20 - 2 * k for k in range(16)]), turn(0, 5, 9000), turn(1, 7, 30000), echo(0, 16, 200),
             echo(1, 30, 255), tone(0, 777, 3000), tone(1, 40000, 50)]
    BLOCKS = [[((n * k * 7919 + 13 * n) % 4001) - 2000 for n in range(64)] for k in range(1, 9)]

    def test_in_one_call_or_in_several(self):
        whole = ask(*self.START, sound(*self.BLOCKS))[-1][1:]
        calls = [sound(each) for each in self.BLOCKS]
        told = ask(*self.START, *calls)[-8:]
        self.assertEqual(joined([each[1:] for each in told]), whole)
        parts = ask(*self.START, sound(*self.BLOCKS[:3]), sound(*self.BLOCKS[3:]))[-2:]
        self.assertEqual(parts[0][1:] + parts[1][1:], whole)

    def test_what_was_heard_before_counts(self):
        once = ask(*self.START, sound(self.BLOCKS[0]))[-1]
        again = ask(*self.START, sound(self.BLOCKS[0]), sound(self.BLOCKS[0]))[-1]
        self.assertNotEqual(once, again)


class WorkedExample(unittest.TestCase):
    # Band 0 has (x + 1) / 2, band 1 (x + 2) / 4 of the number before. Gains by loudness, each less 8 in
    # steady noise: band 0 twice as loud, by -12, as it is; band 1 by 4, four times as loud, as it is.
    START = [begin(), taps(0, HALF), taps(1, row_of([0, 8192])), times(16384, 16384), couple(1, 8),
             gains(0, 0, at({10: 16, 9: -4, 8: 8})), gains(0, 1, at({9: 12, 8: 24, 7: 8})),
             turn(0, 1, 16384), echo(0, 16, 255), limit(0, 700), tone(0, 4096, 1024)]
    FIRST = block(at({0: 1000, 5: 400, 15: 80}), at({0: 200, 15: -100}), [3000])
    SECOND = block(at({0: 600, 4: -300}), [], at({15: -200}))
    THIRD = block([100])

    # The tone: -1024 -768 -512 -256 0 256 512 768 1023 768 512 256 0 -256 -512 -768, each block.
    #
    # Block 1. Turned: 1000, -100, 0, 0, 0, 400, .. 80. Band 0: 500, -50, .. 200, .. 40. Band 1: 250 and -25 at 1
    # and 2, 100 at 6. Differences 1580, 1380, 580, 1220: busy 98, 86, 36, 76: scene 1. Levels 250 and 125.
    # Right: bands 1500 and 750, levels 750 and 375: ten and nine bits. So band 0 doubled, band 1 by 4: 354, -35,
    # 141. Together 1000, 254, -35, 0, 0, 400, 141, .. 80. The right ear's gain is -8: 750 and 375.
    FIRST_LEFT = [-24, -514, -547, -256, 0, 656, 653, 700, 700, 700, 512, 256, 0, -256, -512, -688]
    FIRST_RIGHT = row_of([750, 375])

    # Block 2. Weights are still 0. Turned: 650 (the back's -100), 0, 0, 0, -300. Learned: -1 for weight 0, 1 for
    # weights 1 to 4. Band 0: 325, -150 at 4. Band 1: 20, 163, -75 at 5. Differences 950, 950, 950, 350: busy 151,
    # 140, 93, 93: scene 1. Levels 287 and 144; right 425 and 188: nine and eight bits. Band 0 by -12: 115 and -53;
    # band 1: 80, 652, -300. Right: -100 at 15, halved.
    SECOND_LEFT = [-700, -116, -512, -256, -53, -44, 512, 700, 700, 700, 512, 256, 0, -256, -512, -700]
    SECOND_RIGHT = at({15: -50})

    # Block 3. Echo: -6 -16 -12 -14 -12 -7 -11 -4 3 9 16 18 17 13 8 1. Turned: 106 16 12 14 12 7 11 4 -3 -9 -16 -18
    # -17 -13 -8 -1. Band 0: 53 8 6 7 6 4 6 2 -1 -4 -8 -9 -8 -6 -4 0. Band 1: 0 27 4 3 4 3 2 3 1 -1 -2 -4 -4 -4 -3 -2.
    # Differences 123, 143, 121, 267: busy 149, 140, 94, 103: scene 1. Levels 170 and 86; right 213 and 119: eight
    # and seven bits, both as they are. Right: band 1 has -50 of the -200 before, halved: -24.5.
    THIRD_LEFT = [-700, -700, -502, -246, 10, 263, 520, 700, 700, 700, 502, 243, -12, -266, -519, -700]
    THIRD_RIGHT = row_of([-25])

    def test_first_block(self):
        self.assertEqual(both(*self.START, sound(self.FIRST)), (self.FIRST_LEFT, self.FIRST_RIGHT))

    def test_two_blocks_in_one_call(self):
        self.assertEqual(both(*self.START, sound(self.FIRST, self.SECOND)),
                         (self.FIRST_LEFT + self.SECOND_LEFT, self.FIRST_RIGHT + self.SECOND_RIGHT))

    def test_third_block_in_a_call_of_its_own(self):
        self.assertEqual(both(*self.START, sound(self.FIRST, self.SECOND), sound(self.THIRD)),
                         (self.THIRD_LEFT, self.THIRD_RIGHT))

    def test_what_is_set_between_counts_from_then_on(self):
        # Without limit and tone the third block is what was put together.
        row = left(*self.START, sound(self.FIRST, self.SECOND), limit(0, 32767), tone(0, 0, 0), sound(self.THIRD))
        self.assertEqual(row, [53, 35, 10, 10, 10, 7, 8, 5, 0, -5, -10, -13, -12, -10, -7, -2])

    def test_what_each_ear_has_heard_behind_each_block(self):
        # Learned in block 3, by signs. Cleared: + to moment 7, then -. Put out in block 2: - to moment 5, + to 11,
        # 0, then -; in block 1, from its end back: - - - 0, then +. The sums: -5 -9 -13 -13 -11 -7 -3 1.
        weights = [[0] * 8, [-255, 255, 255, 255, 255, 0, 0, 0],
                   [-1530, -2040, -3060, -3060, -2550, -1785, -765, 255]]
        busy = [[98, 86, 36, 76], [151, 140, 93, 93], [149, 140, 94, 103]]
        # The right ear's 3000 makes 187 each, its -200 adds 13 / 16 = 0, then -187 / 16 = -11.7 is -12.
        right_busy = [[187] * 4, [187] * 4, [175] * 4]
        asked = [state(0), levels(0, 3), state(1), levels(1, 3)]
        calls = [*self.START, sound(self.FIRST), *asked, sound(self.SECOND), *asked, sound(self.THIRD), *asked]
        told = ask(*calls)
        # Sixteen steps of 4096 come round: the phase is 0.
        start = len(self.START)
        for k in range(3):
            place = start + 5 * k + 1
            self.assertEqual(told[place], [0] + weights[k] + busy[k] + [1, 0])
            self.assertEqual(told[place + 1], [0] + [[250, 125, 0], [287, 144, 0], [170, 86, 0]][k])
            self.assertEqual(told[place + 2], [0] + [0] * 8 + right_busy[k] + [1, 0])
            self.assertEqual(told[place + 3], [0] + [[750, 375, 0], [425, 188, 0], [213, 119, 0]][k])


if __name__ == "__main__":
    unittest.main()
