"""The interface: how calls and answers are written, and what is left as it was."""

import unittest

from softhear.aids import answers, rows_from

from helper import (ALL, BEGUN, HALF, PASS, amplify, apart, ask, begin, block, couple, echo, everything, flat, gains,
                    joined, kept, levels, limit, load, loudest, past, portions, row_of, save, shares, sound, sound_of,
                    split, state, taps, times, tone, trim, turn, weave)


def refuse(*numbers, **names):
    raise AssertionError("what is handed in was changed")


class Fixed(list):
    """A list that tells when it is changed, if only for a while."""

    append = extend = insert = remove = pop = clear = sort = reverse = refuse
    __setitem__ = __delitem__ = __iadd__ = __imul__ = refuse


COUNTED = list(range(1, 17))
# Those that need no begin, and what they answer.
ROW_CALLS = [apart([1, 2, 3, 4] * 16), weave([1] * 16, [2] * 16), split(COUNTED), shares(COUNTED, [16384] * 16),
             portions(COUNTED, [8192] * 16), amplify(COUNTED, 8), amplify(COUNTED, 64)]
ROW_ANSWERS = [[0] + [1] * 16 + [2] * 16 + [3] * 16 + [4] * 16, [0] + [1, 2] * 16,
               [0] + [-1] * 8 + [-4] * 4 + [-16] * 2 + [-64, 136], [0, 0, 1, 1, 2, 2, 3, 3, 4, 4, 5, 5, 6, 6, 7, 7, 8],
               [0] + list(range(2, 33, 2)), [0] + list(range(2, 33, 2)), [-2]]
ALL_CALLS = [*ROW_CALLS, begin(), taps(0, PASS), taps(3, HALF), times(30000, 3000), couple(1, 9), gains(1, 2, [3] * 16),
             flat(0, 0, 4), trim(0, [1, 2, 3]), trim(1, []), turn(0, 2, 4000), echo(0, 18, 90), limit(0, 20000),
             tone(1, 99, 400), sound(block([1000] * 16), block([-9] * 16, [7] * 16)), sound_of(65, []), flat(2, 0, 4),
             taps(0, [32767] * 16), past(0, 1, ALL), past(1, 0, [127, 128] * 16), past(0, 256, ALL), loudest(0, 256),
             loudest(1, 0), levels(0, 8), levels(1, 0), levels(2, 1), state(0), state(1), state(2), save(),
             load(kept({0: [9, 9]})), load(kept({260: [2]})), load(BEGUN + [0, 0]), *ROW_CALLS, begin(),
             sound(block([5]))]


class Written(unittest.TestCase):
    def test_the_empty_list(self):
        self.assertEqual(answers([]), [])

    def test_begin_alone(self):
        self.assertEqual(answers([0]), [1, 0])

    def test_how_many_numbers_and_these(self):
        calls = [0, 1, 0, 16] + PASS + [11, 1, 64] + [100, 0, 7, 0] + [0] * 60
        self.assertEqual(answers(calls), [1, 0, 1, 0, 33, 0, 100, 7] + [0] * 30)

    def test_each_call_by_its_number(self):
        calls = ([0] + [1, 7, 16] + [0] * 16 + [2, 5, 6] + [3, 0, 0] + [4, 1, 7, 16] + [1] * 16 + [5, 0, 0, 63] +
                 [6, 0, 2, 5, -5] + [6, 1, 0] + [7, 0, 7, 0] + [8, 1, 255, 255] + [9, 1, 0] + [10, 0, 65535, 0] +
                 [11, 2, 128] + [0] * 128)
        self.assertEqual(answers(calls), [1, 0] * 12 + [65] + [0] * 65)

    def test_each_call_that_asks_by_its_number(self):
        calls = ([0] + [12, 1, 255, 32] + [200, 100] * 16 + [13, 0, 256] + [14, 1, 3] + [15, 0] + [16] + [17, 542] +
                 BEGUN + [158, 4] + [14, 0, 0])
        self.assertEqual(answers(calls), [1, 0] + [17] + [0] * 17 + [2, 0, 0] + [4, 0, 0, 0, 0] + [15] + [0] * 15 +
                         [543, 0] + BEGUN + [158, 4] + [1, 0] + [1, 0])

    def test_each_call_on_rows_by_its_number(self):
        calls = ([18, 64] + [7] * 64 + [19, 16] + [1] * 16 + [16] + [2] * 16 + [20, 16] + [0] * 16 +
                 [21, 16] + [10] * 16 + [16] + [16384] * 16 + [22, 16] + [10] * 16 + [16] + [8192] * 16 +
                 [23, -8, 16] + [10] * 16)
        self.assertEqual(answers(calls), [65, 0] + [7] * 64 + [33, 0] + [1, 2] * 16 + [17] + [0] * 17 +
                         [17, 0] + [5] * 16 + [17, 0] + [20] * 16 + [17, 0] + [5] * 16)

    def test_a_refusal_is_its_number_alone(self):
        calls = [0] + [1, 8, 16] + [0] * 16 + [1, 0, 16] + [32767] * 16 + [11, 0, 0] + [11, 65, 0] + [2, -1, 0]
        self.assertEqual(answers(calls), [1, 0, 1, -2, 1, -3, 1, -2, 1, -2, 1, -2])
        calls = ([0] + [12, 2, 0, 32] + [255] * 32 + [13, 0, 257] + [14, 0, 9] + [15, -1] + [17, 542] + [0] * 542 +
                 [23, 64, 16] + [1] * 16)
        self.assertEqual(answers(calls), [1, 0, 1, -2, 1, -2, 1, -2, 1, -2, 1, -4, 1, -2])

    def test_the_next_call_is_found_behind_rows_of_any_length(self):
        calls = [0, 6, 0, 0, 6, 0, 1, 8, 6, 1, 8, 1, 2, 3, 4, 5, 6, 7, 8, 6, 2, 3, 1, 1, 1, 9, 0, 0]
        self.assertEqual(answers(calls), [1, 0, 1, 0, 1, 0, 1, 0, 1, -2, 1, 0])

    def test_rows_one_behind_another(self):
        self.assertEqual(rows_from([19, 2, 7, 8, 0, 1, 9, 5], 1, 3), [[7, 8], [], [9]])
        self.assertEqual(rows_from([16, 3], 1, 0), [])

    def test_what_is_answered_is_a_list_of_whole_numbers(self):
        told = answers(joined(ALL_CALLS))
        self.assertIs(type(told), list)
        self.assertEqual({type(number) for number in told}, {int})


class WithoutBegin(unittest.TestCase):
    def test_in_a_list_without_begin(self):
        self.assertEqual(ask(*ROW_CALLS), ROW_ANSWERS)
        for call, told in zip(ROW_CALLS, ROW_ANSWERS):
            self.assertEqual(ask(call), [told])
            self.assertEqual(ask(call, call), [told, told])

    def test_ahead_of_the_first_begin(self):
        told = ask(*ROW_CALLS, begin(), taps(0, PASS), sound(block([9])))
        self.assertEqual(told, ROW_ANSWERS + [[0], [0], [0] + row_of([9], 32)])
        for call, one in zip(ROW_CALLS, ROW_ANSWERS):
            self.assertEqual(ask(call, begin(), state(0), call), [one, [0], [0] * 15, one])

    def test_between_other_calls_they_change_nothing(self):
        start = [begin(), taps(0, PASS), flat(0, 0, 5), tone(1, 77, 700), echo(0, 16, 200),
                 sound(*[block([900, 5])] * 3)]
        asked = [*everything(), sound(*[block([-70] * 16, [8] * 16)] * 2), *everything()]
        expected = ask(*start, *asked)
        told = ask(*start, *ROW_CALLS, *asked)
        self.assertEqual(told[:len(start)], expected[:len(start)])
        self.assertEqual(told[len(start):len(start) + len(ROW_CALLS)], ROW_ANSWERS)
        self.assertEqual(told[-len(asked):], expected[-len(asked):])

    def test_they_go_by_nothing_that_is_set(self):
        start = [begin(), taps(0, HALF), flat(0, 0, 63), couple(1, 64), limit(0, 0), sound(block([900] * 16))]
        self.assertEqual(ask(*start, *ROW_CALLS)[-len(ROW_CALLS):], ROW_ANSWERS)


class LeftAsItWas(unittest.TestCase):
    def test_the_list_is_not_changed(self):
        calls = joined(ALL_CALLS)
        kept = list(calls)
        answers(calls)
        self.assertEqual(calls, kept)

    def test_not_for_a_while_either(self):
        calls = joined(ALL_CALLS)
        self.assertEqual(answers(Fixed(calls)), answers(calls))
        self.assertEqual(answers(Fixed()), [])

    def test_nothing_is_kept_from_one_time_to_the_next(self):
        calls = joined(ALL_CALLS)
        quiet = joined([begin(), sound(block([1000] * 16))])
        expected = answers(calls)
        self.assertEqual(answers(calls), expected)
        self.assertEqual(answers(quiet), [1, 0, 33] + [0] * 33)
        self.assertEqual(answers(calls), expected)

    def test_what_is_answered_is_the_callers_own(self):
        calls = joined(ALL_CALLS)
        told = answers(calls)
        kept = list(told)
        told.clear()
        self.assertEqual(answers(calls), kept)


class Long(unittest.TestCase):
    def test_three_hundred_calls(self):
        calls = joined([begin()] + [limit(k % 2, k) for k in range(299)])
        self.assertEqual(answers(calls), [1, 0] * 300)

    def test_three_hundred_calls_that_answer_much(self):
        self.assertEqual(answers([0] + [16] * 299), [1, 0] + ([543, 0] + kept({})) * 299)
        self.assertEqual(answers([0] + [13, 1, 256] * 299), [1, 0] + [2, 0, 0] * 299)

    def test_many_loads(self):
        self.assertEqual(answers(joined([begin()] + [load(kept({}))] * 55)), [1, 0] * 56)

    def test_nearly_thirty_thousand_numbers(self):
        rows = [block([k + 1] * 16, (), [-k] * 16) for k in range(64)]
        calls = joined([begin(), taps(0, PASS)] + [sound(*rows)] * 7)
        self.assertLessEqual(len(calls), 30000)
        one = [2049, 0] + joined([[k + 1, -k] * 16 for k in range(64)])
        self.assertEqual(answers(calls), [1, 0, 1, 0] + one * 7)


if __name__ == "__main__":
    unittest.main()
