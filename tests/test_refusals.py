"""What each call takes, what it refuses and by which number, and that a refusal changes nothing."""

import unittest

from helper import (ALL, BLOCKS, HALF, LEAST, MOST, PASS, SETTING, amplify, ask, at, begin, block, couple, echo,
                    everything, flat, gains, joined, levels, limit, loudest, past, row_of, sound, sound_of, state, taps,
                    times, tone, trim, turn)

OUTSIDE_EARS = (-1, 2, LEAST, MOST)
OUTSIDE_BANDS = (-1, 8, LEAST, MOST)
# What may be refused for ranges alone: the call, and for each of its numbers the least and the greatest.
RANGES = [
    (times, [(0, 32767), (0, 32767)]),
    (couple, [(0, 1), (0, 64)]),
    (flat, [(0, 1), (0, 7), (-64, 63)]),
    (turn, [(0, 1), (0, 7), (0, 32767)]),
    (echo, [(0, 1), (16, 255), (0, 255)]),
    (limit, [(0, 1), (0, 32767)]),
    (tone, [(0, 1), (0, 65535), (0, 32767)]),
    (loudest, [(0, 1), (1, 256)]),
    (levels, [(0, 1), (0, 8)]),
    (state, [(0, 1)]),
    (lambda ear, back: past(ear, back, ALL), [(0, 1), (0, 255)]),
    (lambda g: amplify(SIXTEEN, g), [(-64, 63)]),
]
SIXTEEN = [1] * 16


def answered(call):
    return ask(begin(), call)[-1]


def refused_by_range():
    """Calls with one number out of its range, the others in range and not as they were set."""
    calls = []
    for make, ranges in RANGES:
        for least_or_greatest in (0, 1):
            numbers = [both_ends[least_or_greatest] for both_ends in ranges]
            for place, (least, greatest) in enumerate(ranges):
                for wrong in (least - 1, greatest + 1, LEAST, MOST):
                    calls.append(make(*numbers[:place], wrong, *numbers[place + 1:]))
    for band in OUTSIDE_BANDS:
        calls.append(taps(band, SIXTEEN))
        calls.append(gains(0, band, SIXTEEN))
        calls.append(gains(1, band, SIXTEEN))
    for ear in OUTSIDE_EARS:
        calls.append(gains(ear, 0, SIXTEEN))
        calls.append(gains(ear, 7, SIXTEEN))
        calls.append(trim(ear, []))
        calls.append(trim(ear, [9] * 8))
    for n in (0, 65, -1, LEAST, MOST):
        calls.append(sound_of(n, []))
    return calls


def two_grounds():
    """Calls that -3 is for, but that -2 is for too."""
    calls = [taps(band, [32767] * 16) for band in OUTSIDE_BANDS]
    calls += [gains(ear, 0, [64] * 16) for ear in OUTSIDE_EARS]
    calls += [gains(0, band, [-65] * 16) for band in OUTSIDE_BANDS]
    calls += [gains(2, 8, [127] * 16), flat(2, 8, 64), echo(-1, 15, 256), turn(2, -1, -1), tone(2, -1, 32768)]
    calls += [past(2, 256, ALL), past(-1, -1, [0] * 32), loudest(2, 0), loudest(-1, 257), levels(2, 9), levels(-1, -1)]
    return calls


def refused_by_taps():
    return [taps(0, row_of([-32768, -32768])), taps(0, row_of([-32768, 32767, 1])), taps(7, row_of([32767, 32767, 2])),
            taps(3, at({0: 32767, 7: -1, 14: -1, 15: 32767})), taps(5, [4096] * 16), taps(6, [-4096] * 16),
            taps(1, [32767] * 16), taps(2, [-32768] * 16), taps(4, [-32768, 32767] * 8)]


def refused_by_gains():
    calls = []
    for place in range(16):
        for wrong in (-128, -65, 64, 127):
            calls.append(gains(place % 2, place % 8, at({place: wrong})))
    return calls


class Taken(unittest.TestCase):
    def test_both_ends_of_each_range(self):
        for make, ranges in RANGES:
            middle = [(least + greatest) // 2 for least, greatest in ranges]
            self.assertEqual(answered(make(*middle))[0], 0)
            for place, both_ends in enumerate(ranges):
                for end in both_ends:
                    self.assertEqual(answered(make(*middle[:place], end, *middle[place + 1:]))[0], 0)
            self.assertEqual(answered(make(*[least for least, greatest in ranges]))[0], 0)
            self.assertEqual(answered(make(*[greatest for least, greatest in ranges]))[0], 0)

    def test_what_sets_answers_0_alone(self):
        for make, ranges in RANGES[:7]:
            self.assertEqual(answered(make(*[greatest for least, greatest in ranges])), [0])

    def test_taps_of_each_band(self):
        for band in range(8):
            self.assertEqual(answered(taps(band, PASS)), [0])

    def test_taps_of_65535_together(self):
        for c in [[0] * 16, row_of([-32768, 32767]), row_of([32767, 32767, 1]), row_of([32767, -32767, -1]),
                  at({0: 32767, 15: -32768}), [4096] * 15 + [4095], [-4096] * 15 + [-4095], row_of([-32768])]:
            self.assertEqual(answered(taps(0, c)), [0])

    def test_gains_of_each_ear_and_band(self):
        for ear in (0, 1):
            for band in range(8):
                self.assertEqual(answered(gains(ear, band, [-64, 63] * 8)), [0])

    def test_gains_at_each_loudness(self):
        for place in range(16):
            self.assertEqual(answered(gains(0, 0, at({place: -64}))), [0])
            self.assertEqual(answered(gains(0, 0, at({place: 63}))), [0])

    def test_trim_of_any_length_and_any_numbers(self):
        for ear in (0, 1):
            for length in range(9):
                for number in (0, 5, LEAST, MOST):
                    self.assertEqual(answered(trim(ear, [number] * length)), [0])


class Refused(unittest.TestCase):
    def test_a_number_out_of_its_range(self):
        for call in refused_by_range():
            self.assertEqual(answered(call), [-2], call)

    def test_minus_2_before_all_else(self):
        for call in two_grounds():
            self.assertEqual(answered(call), [-2], call)

    def test_taps_of_more_than_65535_together(self):
        for call in refused_by_taps():
            self.assertEqual(answered(call), [-3], call)

    def test_gains_that_are_not_from_minus_64_to_63(self):
        for call in refused_by_gains():
            self.assertEqual(answered(call), [-3], call)


class NothingChanges(unittest.TestCase):
    QUIETER = [block([3, 1, 2], (), [1, 1, 4]) for k in range(3)]

    def heard_behind(self, calls):
        """What sounds put out, where these calls come ahead of the first one and again between."""
        told = ask(begin(), *SETTING, *calls, sound(*BLOCKS), *calls, sound(*self.QUIETER), sound(*BLOCKS))
        return joined([each for each in told if len(each) > 1])

    def check_nothing_changes(self, calls):
        expected = self.heard_behind([])
        for call in calls:
            self.assertEqual(self.heard_behind([call]), expected, call)
        self.assertEqual(self.heard_behind(calls[:90]), expected)

    def test_out_of_range(self):
        self.check_nothing_changes(refused_by_range())

    def test_two_grounds(self):
        self.check_nothing_changes(two_grounds())

    def test_taps(self):
        self.check_nothing_changes(refused_by_taps())

    def test_gains(self):
        self.check_nothing_changes(refused_by_gains())

    def test_all_that_can_be_asked_for_stays(self):
        start = [begin(), *SETTING, sound(*BLOCKS)]
        asked = everything()
        expected = ask(*start, *asked)[-len(asked):]
        calls = refused_by_range() + two_grounds() + refused_by_taps() + refused_by_gains()
        for first in range(0, len(calls), 20):
            several = calls[first:first + 20]
            self.assertEqual(ask(*start, *several, *asked)[-len(asked):], expected, several)

    def test_calls_that_are_taken_do_change_what_is_heard(self):
        # Else the tests above would show nothing.
        expected = self.heard_behind([])
        calls = [begin(), times(20000, 0), times(0, 5000), couple(0, 10), couple(1, 11), turn(0, 4, 9000),
                 turn(0, 3, 9500), turn(1, 6, 14000), turn(1, 5, 14500), echo(0, 18, 200), echo(0, 17, 0),
                 echo(1, 21, 150), echo(1, 20, 0), limit(0, 100), limit(1, 100), tone(0, 701, 2000),
                 tone(0, 700, 2001), tone(1, 1101, 3000), tone(1, 1100, 3001), sound(BLOCKS[0])]
        calls += [taps(band, HALF) for band in range(8)]
        calls += [make(ear, band, value) for make, value in [(flat, 1), (gains, SIXTEEN)] for ear in (0, 1)
                  for band in range(8)]
        calls += [trim(ear, at({band: 1}, 8)) for ear in (0, 1) for band in range(8)]
        for call in calls:
            self.assertNotEqual(self.heard_behind([call]), expected, call)


class RefusedThenHeard(unittest.TestCase):
    def test_each_by_what_it_would_have_changed(self):
        # Worked out for what is set behind begin: the sound passes as it is.
        loud = sound(block([1000], [500], [1000], [500]))
        for call in [taps(0, row_of([32767, 32767, 2])), taps(8, HALF), times(0, 32768), couple(2, 64), couple(1, 65),
                     gains(0, 0, [8] * 15 + [64]), gains(0, 8, [8] * 16), flat(0, 0, 64), flat(2, 0, 8), trim(2, [8]),
                     turn(0, 8, 32767), turn(0, 0, 32768), echo(0, 15, 255), echo(0, 16, 256), limit(0, 32768),
                     limit(2, 0), limit(0, -1), tone(0, 65536, 32767), tone(0, 0, 32768), tone(0, -1, 32767)]:
            told = ask(begin(), taps(0, PASS), call, loud)[-1]
            self.assertEqual(told, [0] + row_of([1000, 1000], 32), call)


if __name__ == "__main__":
    unittest.main()
