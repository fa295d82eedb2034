"""past: what an ear put out some blocks ago, as bytes, by a mask."""

import unittest

from helper import (ALL, LEAST, MOST, PASS, QUIET, ask, at, begin, block, everything, joined, last, limit, past, row_of,
                    sound, taps, tone)

START = [begin(), taps(0, PASS)]
NUMBERS = [1, -1, 256, -256, 258, 4660, -2, 16384, -16383, 255, 0, 127, 128, -128, -129, 300]
BYTES = [1, 0, 255, 255, 0, 1, 0, 255, 2, 1, 52, 18, 254, 255, 0, 64,
         1, 192, 255, 0, 0, 0, 127, 0, 128, 0, 128, 255, 127, 255, 44, 1]


def numbered(how_many):
    """Blocks of which the k-th, from 0 on, has k + 1 in the left ear and -k - 1 in the right, at moment 0."""
    return [block([k + 1], (), [-k - 1]) for k in range(how_many)]


def short(k):
    """A small number at moment 0, as 32 bytes."""
    return [k % 256, k // 256 % 256] + [0] * 30


class Bytes(unittest.TestCase):
    def test_the_lower_byte_first_and_with_signs(self):
        self.assertEqual(last(*START, sound(block(NUMBERS)), past(0, 0, ALL)), [0] + BYTES)

    def test_the_right_ear(self):
        calls = [*START, sound(block([7], (), NUMBERS))]
        self.assertEqual(last(*calls, past(1, 0, ALL)), [0] + BYTES)
        self.assertEqual(last(*calls, past(0, 0, ALL)), [0] + short(7))

    def test_the_greatest_and_the_least_number_put_out(self):
        # Two numbers of 32767 by 32767 are held at 32767; of -32768 at the limit's opposite, -32767.
        start = [begin(), taps(0, row_of([32767, 32767]))]
        told = last(*start, sound(block([32767, 32767, 0, -32768, -32768])), past(0, 0, ALL))
        self.assertEqual(told[3:5], [255, 127])
        self.assertEqual(told[9:11], [1, 128])

    def test_what_was_put_out_and_not_what_came_in(self):
        told = last(*START, limit(0, 300), sound(block([5, 1000, -1000], [9] * 16)), past(0, 0, ALL))
        self.assertEqual(told, [0] + row_of([5, 0, 44, 1, 212, 254], 32))
        # The tone at phase 0: -16384.
        self.assertEqual(last(begin(), tone(1, 0, 16384), sound(QUIET), past(1, 0, ALL)), [0] + [0, 192] * 16)

    def test_no_sound_yet(self):
        for ear in (0, 1):
            for back in (0, 1, 255):
                self.assertEqual(last(begin(), past(ear, back, ALL)), [0] + [0] * 32)
                self.assertEqual(last(*START, past(ear, back, [127] * 32)), [0])


class Mask(unittest.TestCase):
    CALLS = [*START, sound(block(NUMBERS))]

    def test_all(self):
        for byte in (128, 129, 200, 255):
            self.assertEqual(last(*self.CALLS, past(0, 0, [byte] * 32)), [0] + BYTES)

    def test_none(self):
        for byte in (0, 1, 64, 127):
            self.assertEqual(last(*self.CALLS, past(0, 0, [byte] * 32)), [0])

    def test_some_in_order(self):
        mask = at({0: 128, 2: 127, 4: 255, 5: 200, 11: 129, 16: 0, 17: 128, 30: 255, 31: 128}, 32)
        self.assertEqual(last(*self.CALLS, past(0, 0, mask)), [0, 1, 0, 1, 18, 192, 44, 1])

    def test_lower_or_upper_bytes_alone(self):
        self.assertEqual(last(*self.CALLS, past(0, 0, [128, 127] * 16)), [0] + BYTES[0::2])
        self.assertEqual(last(*self.CALLS, past(0, 0, [127, 128] * 16)), [0] + BYTES[1::2])

    def test_each_place_alone(self):
        for place in range(32):
            self.assertEqual(last(*self.CALLS, past(0, 0, at({place: 128}, 32))), [0, BYTES[place]])


class Back(unittest.TestCase):
    def test_several_blocks(self):
        calls = [*START, sound(*numbered(5))]
        for back in range(5):
            self.assertEqual(last(*calls, past(0, back, ALL)), [0] + short(5 - back))
            self.assertEqual(last(*calls, past(1, back, ALL)), [0] + short(back - 5))
        self.assertEqual(last(*calls, past(0, 5, ALL)), [0] + [0] * 32)

    def test_blocks_of_one_call_or_of_several(self):
        blocks = numbered(4)
        calls = [*START, sound(*blocks[:2]), sound(blocks[2]), sound(blocks[3])]
        self.assertEqual(ask(*calls, *[past(0, back, ALL) for back in range(4)])[-4:],
                         [[0] + short(4 - back) for back in range(4)])

    def test_each_time_as_far_as_then(self):
        blocks = numbered(3)
        told = ask(*START, sound(blocks[0]), past(0, 0, ALL), sound(blocks[1]), past(0, 0, ALL), past(0, 1, ALL),
                   sound(blocks[2]), past(0, 2, ALL), past(0, 0, ALL))
        self.assertEqual([told[k] for k in (3, 5, 6, 8, 9)], [[0] + short(k) for k in (1, 2, 1, 1, 3)])

    def test_256_blocks(self):
        blocks = numbered(256)
        calls = [*START, *[sound(*blocks[start:start + 64]) for start in range(0, 256, 64)]]
        for back in (0, 1, 63, 64, 128, 254, 255):
            self.assertEqual(last(*calls, past(0, back, ALL)), [0] + short(256 - back))
            self.assertEqual(last(*calls, past(1, back, ALL)), [0] + short(back - 256))

    def test_what_is_more_than_255_blocks_ago_is_gone(self):
        blocks = numbered(258)
        calls = [*START, *[sound(*blocks[start:start + 64]) for start in range(0, 258, 64)]]
        self.assertEqual(last(*calls, past(0, 255, ALL)), [0] + short(3))
        self.assertEqual(last(*calls, past(0, 0, ALL)), [0] + short(258))

    def test_begin_again_forgets(self):
        self.assertEqual(last(*START, sound(*numbered(3)), begin(), past(0, 1, ALL)), [0] + [0] * 32)


class Refused(unittest.TestCase):
    def test_an_ear_that_there_is_not(self):
        for ear in (-1, 2, LEAST, MOST):
            for back in (0, 255, -1):
                self.assertEqual(last(*START, sound(block(NUMBERS)), past(ear, back, ALL)), [-2])

    def test_back_out_of_its_range(self):
        for back in (-1, 256, 257, LEAST, MOST):
            for ear in (0, 1):
                self.assertEqual(last(*START, sound(block(NUMBERS)), past(ear, back, ALL)), [-2])
                self.assertEqual(last(*START, past(ear, back, [0] * 32)), [-2])


class NothingChanges(unittest.TestCase):
    def test_asking_changes_nothing(self):
        asked = joined([[past(ear, back, ALL), past(ear, back, [0] * 32)] for ear in (0, 1) for back in (0, 3, 256)])
        behind = [*everything(), sound(*numbered(2)), *everything()]
        start = [*START, tone(0, 100, 100), sound(*numbered(3))]
        self.assertEqual(ask(*start, *asked, *behind)[-len(behind):], ask(*start, *behind)[-len(behind):])


if __name__ == "__main__":
    unittest.main()
