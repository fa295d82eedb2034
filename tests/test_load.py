"""load: what's set is as bytes say, and what's heard stays; or -4, and nothing changes."""

import unittest

from helper import (ALL, ATTACK, BEGUN, BLOCKS, COUPLED, DELAY, EARS, HALF, LESSEN, LIMIT, PART, PASS, QUIET, RATE,
                    RELEASE, SETTING, STEP, STRENGTH, WAY, ask, at, begin, block, both, couple, echo, everything, flat,
                    joined, kept, last, left, levels, limit, load, past, right, row_of, save, sound, state, summed,
                    taps, times, tone, trim, turn)

OTHER = [*[taps(band, HALF) for band in range(8)], times(1, 2), couple(0, 64), trim(0, [-30] * 8), trim(1, [30] * 8),
         turn(0, 7, 32767), turn(1, 0, 1), echo(0, 255, 1), echo(1, 16, 255), limit(0, 1), limit(1, 32767),
         tone(0, 65535, 1), tone(1, 3, 32767)]


def ends(place, good, bad):
    return [(place, list(each), 0) for each in good] + [(place, list(each), -4) for each in bad]


def cases():
    """From which place on which bytes stand, and what load answers."""
    told = []
    for place in (ATTACK, RELEASE, *[ear + each for ear in EARS for each in (PART, LIMIT, STRENGTH)]):
        told += ends(place, [(0, 0), (1, 0), (255, 127), (0, 1)], [(0, 128), (255, 255), (255, 128)])
    told += ends(COUPLED, [(0,), (1,)], [(2,), (3,), (128,), (255,)])
    told += ends(LESSEN, [(0,), (1,), (64,)], [(65,), (128,), (255,)])
    for ear in EARS:
        for place in (0, 1, 15, 16, 63, 126, 127):
            told += ends(ear + place, [(192,), (193,), (255,), (0,), (62,), (63,)],
                         [(64,), (65,), (127,), (128,), (191,)])
        told += ends(ear + DELAY, [(0,), (1,), (7,)], [(8,), (128,), (255,)])
        told += ends(ear + WAY, [(16,), (17,), (128,), (255,)], [(0,), (1,), (15,)])
        told += ends(ear + RATE, [(0,), (127,), (128,), (255,)], [])
        told += ends(ear + STEP, [(0, 0), (255, 127), (0, 128), (255, 255)], [])
    for band in range(8):
        # -32768 and 32767; and 1 more. Twice -32768. Sixteen times 4096, and one of them less by 1.
        told += ends(32 * band, [(0, 128, 255, 127), (255, 127, 255, 127, 1, 0), (0, 16) * 15 + (255, 15),
                                 (0, 240) * 15 + (1, 240)],
                     [(0, 128, 255, 127, 1, 0), (0, 128, 0, 128), (255, 127, 255, 127, 255, 255, 1, 0), (0, 16) * 16,
                      (0, 240) * 16, (0, 128) * 16, (255, 127) * 16, (0, 128) + (0, 0) * 14 + (0, 128)])
        told += ends(32 * band + 30, [(0, 128), (255, 127), (255, 255), (0, 0)], [])
    return told


def wrong_sums():
    """542 bytes of which the last two are not the sum of the others, which are good ones."""
    # 1182 is 158, 4.
    rows = [BEGUN + [low, high] for low, high in [(157, 4), (159, 4), (158, 3), (158, 5), (4, 158), (0, 0), (255, 255),
                                                  (158, 132), (30, 4)]]
    good = kept({})
    for place in (0, 255, ATTACK, LESSEN, EARS[0], EARS[0] + RATE, EARS[1] + RATE, EARS[1] + STRENGTH):
        rows.append(good[:place] + [good[place] - 1 if good[place] else 1] + good[place + 1:])
    # The sum with its own bytes: 1182 + 158 + 4 = 1344.
    rows.append(BEGUN + [64, 5])
    return rows


def refused():
    return [kept({place: row}) for place, row, answer in cases() if answer == -4] + wrong_sums()


class Taken(unittest.TestCase):
    def test_answers_0(self):
        self.assertEqual(last(begin(), load(kept({}))), [0])

    def test_what_is_set_is_as_these_bytes_say(self):
        for place, row, answer in cases():
            if answer == 0:
                told = ask(begin(), *OTHER, load(kept({place: row})), save())
                self.assertEqual(told[-2:], [[0], [0] + kept({place: row})])

    def test_what_was_saved(self):
        saved = last(begin(), *SETTING, save())[1:]
        told = ask(begin(), *SETTING, *OTHER, load(saved), save())
        self.assertEqual(told[-2:], [[0], [0] + saved])
        told = ask(begin(), load(saved), save(), begin(), save(), load(saved), save())
        self.assertEqual(told[1:], [[0], [0] + saved, [0], [0] + kept({}), [0], [0] + saved])

    def test_a_sum_past_65535(self):
        # 131742 = 2 * 65536 + 2 * 256 + 158.
        row = [255] * 256 + BEGUN[256:262] + [255] * 128 + BEGUN[390:401] + [255] * 128 + BEGUN[529:540] + [158, 2]
        self.assertEqual(ask(begin(), load(row), save())[1:], [[0], [0] + row])

    def test_as_if_set_by_calls(self):
        saved = last(begin(), *SETTING, save())[1:]
        asked = [sound(*BLOCKS), *everything()]
        expected = ask(begin(), *SETTING, *asked)[-len(asked):]
        self.assertEqual(ask(begin(), *OTHER, load(saved), *asked)[-len(asked):], expected)

    def test_what_is_set_behind_it_counts(self):
        told = last(begin(), load(kept({EARS[0] + LIMIT: [5, 0]})), limit(0, 6), trim(1, [1]), taps(7, HALF), save())
        self.assertEqual(told, [0] + kept({224: [0, 64], EARS[0] + LIMIT: [6, 0], EARS[1]: [1] * 16}))

    def test_what_was_loaded_is_not_tied_to_what_is_set_behind_it(self):
        row = kept({0: [0, 64]})
        told = ask(begin(), load(row), taps(0, PASS), flat(0, 0, 1), load(row), save())
        self.assertEqual(told[-1], [0] + row)


class Heard(unittest.TestCase):
    """Each number that is loaded, by what is heard of it."""

    def test_taps(self):
        # Band 3: 16384 by the newest number, -8192 by the one before: 1000 makes 500, then -250 + 0.5 down.
        calls = [begin(), load(kept({96: [0, 64, 0, 224]})), sound(block([1000], (), [-1000]))]
        self.assertEqual(both(*calls), (row_of([500, -250]), row_of([-500, 250])))

    def test_gains(self):
        # Band 0 passes. 1025 has a level of 1024, eleven bits: gain -8 in the left ear, 8 in the right.
        row = kept({0: [255, 127], EARS[0] + 11: [248], EARS[1] + 11: [8]})
        self.assertEqual(both(begin(), load(row), sound(block([1025], (), [1025]))), (row_of([513]), row_of([2050])))

    def test_attack_and_release(self):
        # A half of 1001: 500; then an eighth of 498 less, 62.
        row = kept({0: [255, 127], ATTACK: [0, 64], RELEASE: [0, 16]})
        calls = [begin(), load(row), sound(block([1001])), levels(0, 1), sound(block([2])), levels(0, 1)]
        self.assertEqual([each for each in ask(*calls) if len(each) == 2], [[0, 500], [0, 438]])

    def test_coupled_and_lessen(self):
        row = {0: [255, 127], EARS[1] + 11: [8]}
        loud = sound(block([1025], (), [100]))
        self.assertEqual(right(begin(), load(kept(row)), loud), row_of([100]))
        self.assertEqual(right(begin(), load(kept({**row, COUPLED: [1]})), loud), row_of([200]))
        # 256 is steady noise: by -64 it's (256 + 128) / 256.
        self.assertEqual(left(begin(), load(kept({**row, LESSEN: [64]})), sound(block([256]))), row_of([1]))

    def test_delay_and_part(self):
        row = kept({0: [255, 127], EARS[0] + DELAY: [2, 0, 64], EARS[1] + DELAY: [1, 0, 32]})
        told = both(begin(), load(row), sound(block([], [40], [], [80])))
        self.assertEqual(told, (row_of([0, 0, -20]), row_of([0, -20])))

    def test_way_and_rate(self):
        # 20 moments and 3 behind the first number the left ear hears again: weight 3. The right ear's way is 21.
        row = kept({0: [255, 127], EARS[0] + WAY: [20, 250], EARS[1] + WAY: [21, 9]})
        heard = [block([16384], (), [16384]), block(at({7: 5}), (), at({7: 5}))]
        told = ask(begin(), load(row), sound(*heard), state(0), state(1))
        self.assertEqual([told[-2][1:9], told[-1][1:9]], [at({3: 250}, 8), at({2: 9}, 8)])

    def test_limit(self):
        row = kept({0: [255, 127], EARS[0] + LIMIT: [44, 1], EARS[1] + LIMIT: [0, 2]})
        told = both(begin(), load(row), sound(block([1000, -1000], (), [1000, -1000])))
        self.assertEqual(told, (row_of([300, -300]), row_of([512, -512])))

    def test_step_and_strength(self):
        # Steps of 4096 and 32768, by a half.
        row = kept({EARS[0] + STEP: [0, 16, 0, 64], EARS[1] + STEP: [0, 128, 0, 64]})
        told = both(begin(), load(row), sound(QUIET))
        self.assertEqual(told[0][:4], [-16384, -12288, -8192, -4096])
        self.assertEqual(told[1], [-16384, 16383] * 8)


class HeardStays(unittest.TestCase):
    def test_weights_levels_busy_phase_and_what_was_put_out(self):
        calls = [begin(), *SETTING, sound(*BLOCKS)]
        asked = everything()[1:]
        told = ask(*calls, *asked, load(kept({})), *asked)
        self.assertEqual(told[-len(asked):], told[len(calls):len(calls) + len(asked)])
        # There is something that could have gone.
        self.assertNotIn(0, told[-len(asked)][1:13])

    def test_the_phase_by_hand(self):
        calls = [begin(), tone(0, 1000, 5), sound(QUIET), load(kept({})), state(0), sound(QUIET), state(0)]
        self.assertEqual([each[14] for each in ask(*calls) if len(each) == 15], [16000, 16000])

    def test_turned_numbers_and_back_numbers(self):
        # Band 0 has the number before: the 700 of the first block's end.
        row = kept({0: [0, 0, 255, 127]})
        self.assertEqual(left(begin(), sound(block(at({15: 700}))), load(row), sound(QUIET)), at({0: 700}))
        # Back numbers, seven moments late, by a half.
        row = kept({0: [255, 127], EARS[1] + DELAY: [7, 0, 64]})
        self.assertEqual(right(begin(), sound(block([], [], [], at({15: 700, 9: 20}))), load(row), sound(QUIET)),
                         at({0: -10, 6: -350}))

    def test_levels_by_hand(self):
        calls = [begin(), taps(0, PASS), sound(block([1025])), load(kept({})), levels(0, 1)]
        self.assertEqual(last(*calls), [0, 1024])

    def test_what_was_put_out_by_hand(self):
        calls = [begin(), taps(0, PASS), sound(block([258]), block([3])), load(kept({})), past(0, 1, ALL)]
        self.assertEqual(last(*calls), [0] + row_of([2, 1], 32))

    def test_it_goes_on_as_if_set_by_calls(self):
        saved = last(begin(), *SETTING, save())[1:]
        start = [begin(), *OTHER, sound(*BLOCKS)]
        asked = [sound(*BLOCKS), *everything()]
        # SETTING sets all anew, whatever OTHER has set.
        expected = ask(*start, *SETTING, *asked)[-len(asked):]
        self.assertEqual(ask(*start, load(saved), *asked)[-len(asked):], expected)


class Refused(unittest.TestCase):
    def test_a_number_out_of_its_range(self):
        for place, row, answer in cases():
            self.assertEqual(last(begin(), load(kept({place: row}))), [answer], (place, row))

    def test_the_sum_is_another(self):
        for row in wrong_sums():
            self.assertEqual(len(row), 542)
            self.assertEqual(last(begin(), load(row)), [-4])

    def test_a_sum_that_is_not_taken_modulo_65536(self):
        # 65536 is 0, 0.
        row = [255] * 256 + [0] * 6 + ([0] * 131 + [16, 0] + [0] * 6) * 2
        row[EARS[0] + RATE] = 224
        self.assertEqual(last(begin(), load(row + [0, 0])), [0])
        for low, high in [(1, 0), (255, 255), (0, 1)]:
            self.assertEqual(last(begin(), load(row + [low, high])), [-4])

    def test_all_wrong_at_once(self):
        self.assertEqual(last(begin(), load([255] * 542)), [-4])
        self.assertEqual(last(begin(), load([0] * 542)), [-4])

    def test_good_numbers_do_not_mend_a_bad_one(self):
        row = summed(last(begin(), *SETTING, save())[1:541])
        self.assertEqual(last(begin(), load(row)), [0])
        bad = summed(row[:EARS[1] + WAY] + [15] + row[EARS[1] + WAY + 1:540])
        self.assertEqual(last(begin(), load(bad)), [-4])


class NothingChanges(unittest.TestCase):
    START = [begin(), *SETTING, sound(*BLOCKS[:3])]
    ASKED = [*everything(), sound(*BLOCKS[3:]), *everything()]

    def test_one_refused(self):
        expected = ask(*self.START, *self.ASKED)[-len(self.ASKED):]
        for row in [kept({ATTACK: [0, 128]}), kept({COUPLED: [2]}), kept({LESSEN: [65]}), kept({EARS[0] + 127: [64]}),
                    kept({EARS[1] + WAY: [15]}), kept({EARS[1] + STRENGTH: [0, 128]}), kept({224: [0, 128, 0, 128]}),
                    BEGUN + [158, 5]]:
            told = ask(*self.START, load(row), *self.ASKED)
            self.assertEqual(told[len(self.START)], [-4])
            self.assertEqual(told[-len(self.ASKED):], expected)

    def test_each_refused_by_what_is_saved(self):
        expected = last(begin(), *SETTING, save())
        rows = refused()
        for start in range(0, len(rows), 40):
            several = [load(row) for row in rows[start:start + 40]]
            told = ask(begin(), *SETTING, *joined([[call, save()] for call in several]))
            self.assertEqual(told[-2 * len(several):], [[-4], expected] * len(several))


if __name__ == "__main__":
    unittest.main()
