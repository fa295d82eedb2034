"""begin: what is set and heard behind it, the first time and again."""

import unittest

from softhear.pair import Pair

from helper import (HALF, PASS, QUIET, ask, at, begin, block, both, couple, echo, everything, flat, gains, left, limit,
                    right, row_of, sound, taps, times, tone, trim, turn)

LOUD = block([9000, -9000] * 8, [700] * 16, [-5000, 8000] * 8, [-900] * 16)
# All that can be set, set to something else, and sounds that leave something behind in all that's heard.
SET = [taps(3, HALF), taps(0, row_of([0, 5000, 3000])), times(1000, 30000), couple(1, 20),
       flat(0, 0, 9), flat(1, 0, 11), gains(0, 3, [k for k in range(16)]), trim(1, [1, 2, 3, 4, 5, 6, 7, 8]),
       turn(0, 3, 20000), turn(1, 7, 10000), echo(0, 20, 200), echo(1, 16, 100), limit(0, 3000), limit(1, 30000),
       tone(0, 300, 500), tone(1, 77, 20000), sound(LOUD, LOUD, LOUD, LOUD)]


class Begin(unittest.TestCase):
    def test_answers_0(self):
        self.assertEqual(ask(begin()), [[0]])
        self.assertEqual(ask(begin(), begin(), begin()), [[0], [0], [0]])

    def test_begin_again_answers_0(self):
        self.assertEqual(ask(begin(), *SET, begin())[-1], [0])

    def test_again_there_is_nothing_to_hear(self):
        self.assertEqual(both(begin(), *SET, begin(), sound(LOUD)), ([0] * 16, [0] * 16))

    def test_again_the_turned_numbers_are_gone(self):
        self.assertEqual(both(begin(), *SET, begin(), taps(0, row_of([0] + [1000] * 15)), sound(QUIET)),
                         ([0] * 16, [0] * 16))

    def test_again_the_back_numbers_and_part_are_gone(self):
        start = [begin(), *SET, begin(), taps(0, PASS)]
        self.assertEqual(left(*start, sound(block([100], [900]))), row_of([100]))
        self.assertEqual(left(*start, turn(0, 7, 32767), sound(QUIET)), [0] * 16)
        self.assertEqual(right(*start, turn(1, 7, 32767), sound(QUIET)), [0] * 16)

    def test_again_the_gains_are_0(self):
        for band in range(8):
            rows = both(begin(), *SET, begin(), taps(band, PASS), sound(block([100], (), [100])))
            self.assertEqual(rows, (row_of([100]), row_of([100])))

    def test_again_the_taps_are_0(self):
        # One band's tap alone is heard.
        self.assertEqual(left(begin(), *SET, begin(), taps(7, PASS), sound(block([100, 200]))), row_of([100, 200]))

    def test_again_the_levels_are_0_and_attack_is_32767(self):
        # 1023, of ten bits.
        for ear, came in [(0, block([1024])), (1, block((), (), [1024]))]:
            rows = both(begin(), *SET, begin(), taps(0, PASS), gains(ear, 0, at({10: 8})), sound(came))
            self.assertEqual(rows[ear], row_of([2048]))

    def test_again_release_is_1024(self):
        # 1056, then 1056 - 1055 / 32 = 1024, of eleven bits; 1055, then 1055 - 1054 / 32 = 1023.
        start = [begin(), *SET, begin(), taps(0, PASS), gains(0, 0, at({11: 8}))]
        self.assertEqual(left(*start, sound(block([1057]), block([1])))[16:], row_of([2]))
        self.assertEqual(left(*start, sound(block([1056]), block([1])))[16:], row_of([1]))

    def test_again_not_coupled(self):
        start = [begin(), *SET, begin(), taps(0, PASS), gains(1, 0, at({11: 8}))]
        self.assertEqual(right(*start, sound(block([1025], (), [100]))), row_of([100]))

    def test_again_lessen_is_0(self):
        self.assertEqual(left(begin(), *SET, begin(), taps(0, PASS), sound(block([256]))), row_of([256]))

    def test_again_it_was_not_busy(self):
        # 15 each is not yet noise, 16 each is.
        start = [begin(), *SET, begin(), taps(0, PASS), couple(0, 64)]
        self.assertEqual(left(*start, sound(block([255]))), row_of([255]))
        self.assertEqual(left(*start, sound(block([256]))), row_of([1]))

    def test_again_no_tone_and_phase_0(self):
        start = [begin(), *SET, begin()]
        self.assertEqual(left(*start, tone(0, 0, 16384), sound(QUIET)), [-16384] * 16)
        self.assertEqual(right(*start, tone(1, 0, 16384), sound(QUIET)), [-16384] * 16)
        # Set only after a block: a step other than 0 would have moved the phase.
        self.assertEqual(left(*start, sound(QUIET), tone(0, 0, 16384), sound(QUIET)), [-16384] * 16)

    def test_again_limit_is_32767(self):
        start = [begin(), *SET, begin(), taps(0, row_of([32767, 32767]))]
        self.assertEqual(left(*start, sound(block([32767, 32767]))), row_of([32766, 32767, 32766]))

    def test_again_weights_and_what_was_put_out_are_gone(self):
        start = [begin(), *SET, begin(), taps(0, PASS)]
        # No weights: nothing comes back of what is put out now.
        self.assertEqual(left(*start, sound(block([16384] * 16), QUIET, QUIET))[16:], [0] * 32)
        # Nothing was put out: nothing is learned in the first block.
        rows = both(*start, echo(0, 16, 255), echo(1, 16, 255),
                    sound(block([16384] * 16, (), [16384] * 16)), echo(0, 16, 0), echo(1, 16, 0), sound(QUIET, QUIET))
        self.assertEqual(rows, ([0] * 32, [0] * 32))

    def test_again_rate_is_0_and_way_is_16(self):
        start = [begin(), *SET, begin(), taps(0, PASS)]
        self.assertEqual(left(*start, sound(block([16384]), block([16384]), QUIET)), at({0: 16384, 16: 16384}, 48))

    def test_again_all_that_can_be_asked_for_is_as_behind_the_first(self):
        asked = everything()
        self.assertEqual(ask(begin(), *SET, begin(), *asked)[-len(asked):], ask(begin(), *asked)[1:])

    def test_as_if_for_the_first_time(self):
        self.assertEqual(ask(begin(), *SET, begin(), *SET)[-len(SET):], ask(begin(), *SET)[-len(SET):])


class Kept(unittest.TestCase):
    # Some of it can't be heard as yet: the delay of no part, the way of no weights.
    def check_new(self, pair):
        self.assertEqual([pair.taps, pair.attack, pair.release, pair.coupled, pair.lessen, len(pair.ears)],
                         [[[0] * 16] * 8, 32767, 1024, 0, 0, 2])
        for ear in pair.ears:
            self.assertEqual([ear.gains, ear.delay, ear.part, ear.way, ear.rate, ear.most, ear.step, ear.strength],
                             [[[0] * 16] * 8, 0, 0, 16, 0, 32767, 0, 0])
            self.assertEqual([ear.backs, ear.turned, ear.put, ear.weights, ear.levels, ear.busy, ear.phase],
                             [[0] * 7, [0] * 15, [0] * 4096, [0] * 8, [0] * 8, [0] * 4, 0])

    def test_a_new_pair(self):
        self.check_new(Pair())

    def test_a_pair_made_new(self):
        pair = Pair()
        pair.taps[2][3] = 5
        pair.attack = pair.release = pair.coupled = pair.lessen = 1
        ear = pair.ears[1]
        ear.gains[7][15] = ear.delay = ear.part = ear.way = ear.rate = ear.most = ear.step = ear.strength = 1
        ear.backs[6] = ear.turned[14] = ear.put[4095] = ear.weights[7] = ear.levels[7] = ear.busy[3] = ear.phase = 1
        pair.renew()
        self.check_new(pair)


if __name__ == "__main__":
    unittest.main()
