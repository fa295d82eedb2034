"""Steps 1 and 2: the echo is taken off, by weights that learn behind the block."""

import unittest

from helper import HALF, OPPOSITE, PASS, QUIET, at, begin, block, blocks_of, both, echo, left, limit, sound, taps, turn


def weights_read(ear):
    """Calls of which the last, sound, puts out the ear's eight weights, then zeros.

    Behind two blocks of nothing, 32767 is put out once: 16 + i moments later the echo is
    (32767 w + 16384) / 32768 = w, for w = weight i, and the front number 0 less w comes out as w.
    """
    ping = block([-32767]) if ear == 0 else block((), (), [-32767])
    return [echo(ear, 16, 0), limit(ear, 0), sound(QUIET, QUIET), limit(ear, 32767), taps(0, OPPOSITE), sound(ping),
            sound(QUIET)]


def weights(ear, *calls):
    row = both(*calls, *weights_read(ear))[ear]
    if row[8:] != [0] * 8:
        raise AssertionError(row)
    return row[:8]


def steady(front, how_many):
    """The left ear's front number, the same for so many blocks."""
    return sound(*[block([front] * 16)] * how_many)


# By ones put out, what's put out has a sign but hardly an echo.
ONES = [begin(), taps(0, PASS), limit(0, 1)]


class Echo(unittest.TestCase):
    def test_a_weight_is_learned_and_then_taken_off(self):
        # Block 1 puts out 16384 at moment 0. 19 moments later the front is above 0: weight 3 is 255 behind
        # block 2, whose own echo is still by weight 0. It puts out 16384 at moment 3, and 19 moments later
        # the echo is (255 * 16384 + 16384) / 32768 = 128.
        row = left(begin(), taps(0, PASS), echo(0, 16, 255),
                   sound(block([16384]), block(at({3: 16384})), block()))
        self.assertEqual(row, at({0: 16384, 19: 16384, 38: -128}, 48))

    def test_the_right_ear_by_itself(self):
        rows = both(begin(), taps(0, PASS), echo(1, 16, 255),
                    sound(block((), (), [16384]), block((), (), at({3: 16384})), block()))
        self.assertEqual(rows, ([0] * 48, at({0: 16384, 19: 16384, 38: -128}, 48)))

    def test_an_ear_does_not_go_by_the_other_ones_output(self):
        row = left(begin(), taps(0, PASS), echo(0, 16, 255),
                   sound(block((), (), [16384]), block(at({3: 16384})), block()))
        self.assertEqual(row, at({19: 16384}, 48))

    def test_a_way_between(self):
        # 0 + 20 + 3 = 23, and 23 + 20 + 3 = 46.
        row = left(begin(), taps(0, PASS), echo(0, 20, 255),
                   sound(*blocks_of(at({0: 16384, 23: 16384}, 48))))
        self.assertEqual(row, at({0: 16384, 23: 16384, 46: -128}, 48))

    def test_the_greatest_way_and_the_last_weight(self):
        # 255 + 7 = 262 moments, twice.
        row = left(begin(), taps(0, PASS), echo(0, 255, 255),
                   sound(*blocks_of(at({0: 16384, 262: 16384}, 33 * 16))))
        self.assertEqual(row, at({0: 16384, 262: 16384, 524: -128}, 33 * 16))

    def test_the_least_way_and_the_first_weight(self):
        row = left(begin(), taps(0, PASS), echo(0, 16, 255),
                   sound(*blocks_of(at({0: 16384, 16: 16384}, 48))))
        self.assertEqual(row, at({0: 16384, 16: 16384, 32: -128}, 48))

    def test_what_was_put_out_before_the_call_counts(self):
        early = sound(*blocks_of(at({0: 16384}, 32)))
        late = sound(*blocks_of(at({8: 16384}, 64)))
        row = left(begin(), taps(0, PASS), early, echo(0, 40, 255), late)
        # Moment 40 is the late sound's moment 8; 40 more is its moment 48.
        self.assertEqual(row, at({8: 16384, 48: -128}, 64))

    def test_weights_stay_when_way_and_rate_are_set(self):
        learned = sound(*blocks_of(at({0: 16384, 19: 16384}, 32)))
        row = left(begin(), taps(0, PASS), echo(0, 16, 255), learned, echo(0, 20, 0), sound(QUIET))
        # 3 + 20 = 23 moments behind moment 19 is moment 42, the third block's moment 10.
        self.assertEqual(row, at({10: -128}))

    def test_the_echo_goes_by_what_was_limited(self):
        # 8192 is put out: (255 * 8192 + 16384) / 32768 = 64.25.
        row = left(begin(), taps(0, PASS), echo(0, 16, 255), limit(0, 8192),
                   sound(block([16384]), block(at({3: 16384})), block()))
        self.assertEqual(row, at({0: 8192, 19: 8192, 38: -64}, 48))

    def test_an_echo_below_zero_rounds_down(self):
        # Put out: 16384, then -10000; weight 3 is -255. 255 * 10000 + 16384 = 2566384, / 32768 = 78.3.
        row = left(begin(), taps(0, PASS), echo(0, 16, 255),
                   sound(block([16384]), block(at({3: -10000})), block()))
        self.assertEqual(row, at({0: 16384, 19: -10000, 38: -78}, 48))
        # The sign turned round: weight 3 is -255, 10000 is put out: -2533616 / 32768 = -77.3, down: -78.
        row = left(begin(), taps(0, PASS), echo(0, 16, 255),
                   sound(block([-16383]), block(at({3: 10000})), block()))
        self.assertEqual(row, at({0: -16383, 19: 10000, 38: 78}, 48))

    def test_cleared_number_is_held_below(self):
        row = left(*ONES, echo(0, 16, 255), steady(1000, 4), *weights_read(0)[:-1],
                   taps(0, HALF), turn(0, 0, 16384), sound(block([-32768, -1000], [-20000, -20000])))
        # -32768 - 8191 is held at -32768; and 10000 it's -22768, (-22768 + 1) / 2 = -11383.5.
        # -1000 - 8191 and 10000 is 809, (809 + 1) / 2.
        self.assertEqual(row[:2], [-11384, 405])

    def test_cleared_number_is_held_above(self):
        row = left(begin(), taps(0, OPPOSITE), limit(0, 1), echo(0, 16, 255), steady(-1000, 4), *weights_read(0)[:-1],
                   taps(0, HALF), turn(0, 0, 16384), sound(block([32767, 1000], [20000, 20000])))
        # 32767 + 8191 is held at 32767; less 10000 it's 22767. 1000 + 8191 less 10000 is -809, -808 / 2.
        self.assertEqual(row[:2], [11384, -404])


class Learning(unittest.TestCase):
    def test_each_weight_by_its_own_moments(self):
        # In block 2 weight i meets 16 - i numbers of block 1.
        self.assertEqual(weights(0, *ONES, echo(0, 16, 255), steady(1000, 2)),
                         [4080, 3825, 3570, 3315, 3060, 2805, 2550, 2295])

    def test_by_signs_both_below_zero(self):
        self.assertEqual(weights(0, *ONES, echo(0, 16, 255), steady(-1000, 2)),
                         [4080, 3825, 3570, 3315, 3060, 2805, 2550, 2295])

    def test_by_signs_that_differ(self):
        self.assertEqual(weights(0, begin(), taps(0, OPPOSITE), limit(0, 1), echo(0, 16, 255), steady(-1000, 2)),
                         [-4080, -3825, -3570, -3315, -3060, -2805, -2550, -2295])

    def test_signs_of_several_moments_are_summed(self):
        # Put out: + at 0, - at 5. Heard 16 behind: + at 0, + at 5, - at 6: weight 0 has 1 - 1, weight 1 has
        # + (moment 6 by moment 5: - by -), weight 5 has + (5 by 0), weight 6 has - (6 by 0).
        row = weights(0, begin(), taps(0, PASS), echo(0, 16, 10),
                      sound(block(at({0: 7, 5: -9000})), block(at({0: 3, 5: 30, 6: -1}))))
        self.assertEqual(row, [0, 10, 0, 0, 0, 10, -10, 0])

    def test_rate_zero_learns_nothing(self):
        self.assertEqual(weights(0, *ONES, echo(0, 16, 0), steady(1000, 4)), [0] * 8)

    def test_rate_is_zero_behind_begin(self):
        self.assertEqual(weights(0, *ONES, steady(1000, 4)), [0] * 8)

    def test_rate_one(self):
        self.assertEqual(weights(0, *ONES, echo(0, 16, 1), steady(1000, 2)), [16, 15, 14, 13, 12, 11, 10, 9])

    def test_goes_on_from_block_to_block(self):
        # Behind block 3 sixteen more for each.
        self.assertEqual(weights(0, *ONES, echo(0, 16, 100), steady(1000, 3)),
                         [3200, 3100, 3000, 2900, 2800, 2700, 2600, 2500])

    def test_not_above_8191(self):
        # 4080 + 4080 = 8160; 2295 + 4080 = 6375; once more is past the end for each.
        self.assertEqual(weights(0, *ONES, echo(0, 16, 255), steady(1000, 3))[0], 8160)
        self.assertEqual(weights(0, *ONES, echo(0, 16, 255), steady(1000, 4)), [8191] * 8)
        self.assertEqual(weights(0, *ONES, echo(0, 16, 255), steady(1000, 6)), [8191] * 8)

    def test_not_below_minus_8191(self):
        start = [begin(), taps(0, OPPOSITE), limit(0, 1), echo(0, 16, 255)]
        self.assertEqual(weights(0, *start, steady(-1000, 3))[0], -8160)
        self.assertEqual(weights(0, *start, steady(-1000, 4)), [-8191] * 8)
        self.assertEqual(weights(0, *start, steady(-1000, 6)), [-8191] * 8)

    def test_by_the_cleared_number_not_by_the_front_one(self):
        # All ones put out, weights together 25500: the echo is (25500 + 16384) / 32768 = 1. So a front of 0
        # is cleared to -1, sixteen times, and a front of 1 to 0.
        known = [*ONES, echo(0, 16, 255), steady(1000, 2)]
        self.assertEqual(weights(0, *known, steady(0, 1)), [0, -255, -510, -765, -1020, -1275, -1530, -1785])
        self.assertEqual(weights(0, *known, steady(1, 1)), [4080, 3825, 3570, 3315, 3060, 2805, 2550, 2295])

    def test_nothing_put_out_teaches_nothing(self):
        self.assertEqual(weights(0, begin(), taps(0, PASS), limit(0, 0), echo(0, 16, 255), steady(1000, 3)), [0] * 8)

    def test_not_by_the_turned_number(self):
        # The back number, had it part, would turn the sign; the front is 5 at moment 2 alone.
        row = weights(0, begin(), taps(0, PASS), echo(0, 16, 10), sound(block([9])), turn(0, 0, 32767),
                      sound(block(at({2: 5}), [500] * 16)), turn(0, 0, 0))
        self.assertEqual(row, [0, 0, 10, 0, 0, 0, 0, 0])

    def test_each_ear_has_its_own_weights(self):
        calls = [begin(), taps(0, PASS), limit(0, 1), limit(1, 1), echo(0, 16, 1), echo(1, 16, 2),
                 sound(*[block([9] * 16, (), [9] * 16)] * 2)]
        self.assertEqual(weights(0, *calls), [16, 15, 14, 13, 12, 11, 10, 9])
        self.assertEqual(weights(1, *calls), [32, 30, 28, 26, 24, 22, 20, 18])


if __name__ == "__main__":
    unittest.main()
