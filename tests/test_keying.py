"""Points 6 to 8: down, up, at."""

import itertools
import unittest

from tests.helper import (AGAIN, BACK, CODES, END, ask, at, begin, down, ends, key_lengths, opened, pattern, place, say,
                          spell, tail, up, way, word, OPEN)

LATE = 2 ** 31
MANY = 4294967295
ROUND = opened([(0, 1, {"E": 1, "T": END}), (1, 0, {"A": 0, "N": END})])
ONE_E = opened([(0, 1, {"E": END})])


def said(words, lengths, wait, **more):
    """The word that's said at a place with these words, of what was keyed and waited, or None."""
    calls = opened([(0, 1, {letters: END for letters in words})], p=2, **more)
    keyed = key_lengths(0, 5, lengths)
    answer, taken = tail(calls, keyed + [at(ends(keyed) + wait), BACK])[-2:]
    assert (answer, taken < 0) in ((0, True), (1, False)), (answer, taken)
    return None if answer == 0 else words[taken]


class Down(unittest.TestCase):
    def test_taken_at_now_and_later(self):
        self.assertEqual(tail(ROUND, [down(0, 0)]), [0])
        self.assertEqual(tail(ROUND, [at(7), down(0, 7)]), [0, 0])
        self.assertEqual(tail(ROUND, [down(0, LATE - 1)]), [0])

    def test_who_is_no_party(self):
        self.assertEqual(tail(ROUND, [down(2, 0), down(MANY, MANY), down(2, LATE)]), [-22] * 3)

    def test_who_does_not_speak_there(self):
        self.assertEqual(tail(ROUND, [down(1, 0), down(1, LATE), at(5), down(1, 3)]), [-1, -1, 0, -1])
        before = ROUND + say(0, 0, "E", 10, 31)
        self.assertEqual(tail(before, [down(0, 50), down(1, 50)]), [-1, 0])

    def test_nobody_speaks_at_the_end(self):
        before = ROUND + say(0, 0, "T", 10, 31)
        self.assertEqual(tail(before, [down(0, 99), down(1, 99), down(0, LATE), down(2, 99)]), [-1, -1, -1, -22])

    def test_tick_before_now_or_too_late(self):
        calls = [at(9), down(0, 8), down(0, 0), down(0, LATE), down(0, MANY), down(0, 9)]
        self.assertEqual(tail(ROUND, calls), [0, -22, -22, -22, -22, 0])

    def test_key_is_down(self):
        self.assertEqual(tail(ROUND, [down(0, 5), down(0, 5), down(0, 9), down(0, 4), down(0, LATE), down(1, 9)]),
                         [0, -16, -16, -22, -22, -1])

    def test_behind_the_tick_at_which_it_came_up(self):
        self.assertEqual(tail(ROUND, [down(0, 5), up(0, 15), down(0, 15), down(0, 14), down(0, 16)]),
                         [0, 0, -22, -22, 0])

    def test_nothing_came_so_the_tick_may_be_the_same(self):
        self.assertEqual(tail(ROUND, [down(0, 5), up(0, 15), AGAIN, down(0, 15)]), [0, 0, 1, 0])
        talk = say(0, 0, "E", 10, 31)
        self.assertEqual(tail(ROUND + talk, [down(1, 41)]), [0])

    def test_the_gap_is_over_then(self):
        self.assertEqual(tail(ROUND, [down(0, 5), up(0, 15), down(0, 25), AGAIN]), [0, 0, 0, 2])

    def test_no_gap_ahead_of_the_first_mark(self):
        self.assertEqual(tail(ROUND, [at(100), down(0, 500), AGAIN]), [0, 0, 0])

    def test_its_tick_is_now(self):
        self.assertEqual(tail(ROUND, [down(0, 50), at(49), at(50)]), [0, -22, 0])


class Up(unittest.TestCase):
    def test_key_is_up(self):
        self.assertEqual(tail(ROUND, [up(0, 5), down(0, 5), up(0, 6), up(0, 7)]), [-16, 0, 0, -16])

    def test_who(self):
        calls = [down(0, 5), up(2, 9), up(MANY, LATE), up(1, 9), up(1, LATE), up(0, 9)]
        self.assertEqual(tail(ROUND, calls), [0, -22, -22, -1, -1, 0])

    def test_at_the_end(self):
        self.assertEqual(tail(ROUND + say(0, 0, "T", 10, 31), [up(0, 99), up(1, 99), up(2, 99)]), [-1, -1, -22])

    def test_tick(self):
        calls = [down(0, 5), at(8), up(0, 7), up(0, LATE), up(0, MANY), up(0, 8)]
        self.assertEqual(tail(ROUND, calls), [0, 0, -22, -22, -22, 0])

    def test_tick_is_looked_at_before_the_key(self):
        self.assertEqual(tail(ROUND, [at(8), up(0, 7), up(0, LATE), up(0, 8)]), [0, -22, -22, -16])

    def test_behind_the_tick_at_which_it_came_down(self):
        self.assertEqual(tail(ROUND, [down(0, 5), up(0, 5), up(0, 6)]), [0, -22, 0])

    def test_its_tick_is_now_and_the_mark_is_over(self):
        self.assertEqual(tail(ROUND, [down(0, 5), up(0, 50), at(49), at(50), AGAIN]), [0, 0, -22, 0, 1])


class Lengths160(unittest.TestCase):
    full = ONE_E + key_lengths(0, 0, [1] * 160)

    def test_160_come(self):
        self.assertEqual(ask(self.full)[-161:], [0] * 161)

    def test_no_more(self):
        calls = [up(0, 161), up(0, 160), up(0, 159), up(1, 161), up(2, 161), down(0, 161), at(170), up(0, 171), AGAIN]
        self.assertEqual(tail(self.full, calls), [-28, -22, -22, -1, -22, -16, 0, -28, 160])

    def test_refused_now_stays(self):
        self.assertEqual(tail(self.full, [up(0, 900), at(161)]), [-28, 0])

    def test_behind_again_there_is_room(self):
        calls = [up(0, 161), AGAIN, AGAIN] + say(0, 200, "E", 10, 31)
        self.assertEqual(tail(self.full, calls), [-28, 160, 0, 0, 0, 1])

    def test_159_come_with_the_key_up(self):
        before = ONE_E + key_lengths(0, 0, [1] * 159)
        self.assertEqual(tail(before, [down(0, 160), up(0, 161), AGAIN]), [0, -28, 160])


class At(unittest.TestCase):
    def test_tick(self):
        calls = [at(0), at(5), at(5), at(4), at(LATE), at(MANY), at(LATE - 1), at(LATE - 1), at(LATE - 2), at(LATE)]
        self.assertEqual(tail(ROUND, calls), [0, 0, 0, -22, -22, -22, 0, 0, -22, -22])

    def test_said_at_the_last_tick_of_all(self):
        keyed = [down(0, LATE - 42), up(0, LATE - 32), at(LATE - 2), at(LATE - 1), BACK]
        self.assertEqual(tail(ONE_E, keyed), [0, 0, 0, 1, 0])
        self.assertEqual(tail(ONE_E, [down(0, LATE - 2), up(0, LATE - 1), at(LATE)]), [0, 0, -22])

    def test_waited_longer_than_3_units_and_the_slack(self):
        for e, wait in ((0, 30), (1, 31), (9, 39)):
            self.assertIsNone(said(["E"], [10], wait, e=e))
            self.assertEqual(said(["E"], [10], wait + 1, e=e), "E")

    def test_said_once(self):
        keyed = say(0, 0, "E", 10, 31)
        self.assertEqual(tail(ROUND, keyed + [at(41), at(90)]), [0, 0, 1, 0, 0])

    def test_only_by_at(self):
        calls = [down(0, 0), up(0, 10), down(0, 500), up(0, 510), at(541), AGAIN]
        self.assertEqual(tail(ONE_E, calls), [0, 0, 0, 0, 0, 3])

    def test_nothing_came(self):
        self.assertEqual(tail(ROUND, [at(0), at(31), at(1000000), at(LATE - 1)]), [0] * 4)

    def test_at_the_end(self):
        self.assertEqual(tail(ROUND + say(0, 0, "T", 10, 31), [at(61), at(60), at(500), at(LATE)]), [0, -22, 0, -22])

    def test_while_the_key_is_down(self):
        self.assertEqual(tail(ONE_E, [down(0, 0), at(10), at(50), up(0, 51), at(500)]), [0] * 5)

    def test_each_letter_and_digit(self):
        for letters in CODES:
            self.assertEqual(said([letters], [10 * k for k in pattern(letters)], 31), letters)

    def test_no_letter_or_digit_is_another(self):
        for one, other in itertools.permutations(CODES, 2):
            self.assertIsNone(said([one], [10 * k for k in pattern(other)], 100, e=9), (one, other))

    def test_words_of_several_letters(self):
        for letters in ("SOS", "PARIS", "A1B2C3", "000000000000", "EEEEEEEEEEEE", "QUICK5"):
            lengths = [10 * k for k in pattern(letters)]
            self.assertEqual(said([letters, "K"], lengths, 31), letters)
            self.assertIsNone(said([letters, "K"], lengths[:-1], 31))

    def test_letters_are_told_by_the_gap_between(self):
        words = ["A", "ET", "I", "EE"]
        for letters in words:
            self.assertEqual(said(words, [10 * k for k in pattern(letters)], 31), letters)

    def test_a_length_is_off_by_the_slack_at_most(self):
        for e in (0, 1, 4, 9):
            for by in range(-10, 11):
                self.assertEqual(said(["E"], [10 + by] if by > -10 else [1], 31 + e, e=e) == "E",
                                 abs(by if by > -10 else -9) <= e, (e, by))
                self.assertEqual(said(["T"], [30 + by], 31 + e, e=e) == "T", abs(by) <= e, (e, by))
                self.assertEqual(said(["A"], [10, max(10 + by, 1), 30], 31 + e, e=e) == "A",
                                 abs(max(by, -9)) <= e, (e, by))
                self.assertEqual(said(["ET"], [10, 30 + by, 30], 31 + e, e=e) == "ET", abs(by) <= e, (e, by))

    def test_a_gap_of_7_is_in_no_word(self):
        self.assertIsNone(said(["ET", "A"], [10, 70, 30], 100))

    def test_more_came_than_the_word_has(self):
        self.assertIsNone(said(["E"], [10, 10, 10], 100))
        self.assertIsNone(said(["E", "T"], [10, 30, 10], 100))

    def test_a_word_that_begins_another(self):
        words = ["E", "EE", "I", "EEE"]
        for letters in words:
            self.assertEqual(said(words, [10 * k for k in pattern(letters)], 31), letters)
            self.assertIsNone(said(words, [10 * k for k in pattern(letters)], 30))

    def test_a_beginning_is_no_word(self):
        self.assertIsNone(said(["EE", "I"], [10], 500))

    def test_a_longer_one_may_still_be_by_a_greater_unit(self):
        """By each unit from 10 to 20 a mark of 15 is E; by 20 a gap may still be one of 3 at 65."""
        self.assertIsNone(said(["E"], [15], 50, lo=10, hi=20, e=5))
        self.assertEqual(said(["E"], [15], 66, lo=10, hi=20, e=5), "E")
        self.assertIsNone(said(["E", "EE"], [15], 65, lo=10, hi=20, e=5))
        self.assertEqual(said(["E", "EE"], [15], 66, lo=10, hi=20, e=5), "E")

    def test_a_longer_one_in_a_greater_unit_is_waited_for(self):
        """T by 10 is over behind 32; but EE by 30 may go on with its gap till 92."""
        self.assertIsNone(said(["T", "EE"], [30], 92, lo=10, hi=30, e=2))
        self.assertEqual(said(["T", "EE"], [30], 93, lo=10, hi=30, e=2), "T")
        self.assertIsNone(said(["T", "I"], [30], 32, lo=10, hi=30, e=2))
        self.assertEqual(said(["T", "I"], [30], 33, lo=10, hi=30, e=2), "T")

    def test_it_is_over_by_all_units_that_may_be(self):
        self.assertIsNone(said(["E"], [11], 38, lo=10, hi=12, e=2))
        self.assertEqual(said(["E"], [11], 39, lo=10, hi=12, e=2), "E")
        self.assertIsNone(said(["E"], [9], 35, lo=10, hi=12, e=2))
        self.assertEqual(said(["E"], [9], 36, lo=10, hi=12, e=2), "E")

    def test_units_out_of_the_range_are_none(self):
        for length, answer in ((9, None), (10, "E"), (12, "E"), (13, None), (30, None)):
            self.assertEqual(said(["E"], [length], 100, lo=10, hi=12), answer)
        for length, answer in ((29, None), (30, "T"), (31, None), (33, "T"), (36, "T"), (37, None)):
            self.assertEqual(said(["T"], [length], 100, lo=10, hi=12), answer)

    def test_greatest_and_least_units(self):
        self.assertEqual(said(["T"], [12288], 12289, lo=4096, hi=4096), "T")
        self.assertIsNone(said(["T"], [12288], 12288, lo=1, hi=4096))
        self.assertEqual(said(["T"], [16383], 16384, lo=4096, hi=4096, e=4095), "T")
        self.assertIsNone(said(["T"], [16384], 20000, lo=4096, hi=4096, e=4095))
        self.assertEqual(said(["E"], [1], 4, lo=1, hi=1), "E")

    def test_short_or_long_where_the_range_is_wide(self):
        self.assertIsNone(said(["E", "T"], [30], 500, lo=10, hi=30))
        self.assertEqual(said(["E", "T"], [30], 500, lo=11, hi=30), "E")
        self.assertEqual(said(["E", "T"], [30], 500, lo=10, hi=29), "T")
        self.assertEqual(said(["E", "T"], [29], 500, lo=10, hi=30), "E")
        self.assertEqual(said(["E", "T"], [33], 500, lo=10, hi=30), "T")
        self.assertIsNone(said(["E", "T"], [31], 500, lo=10, hi=30))

    def test_one_word_by_several_units_and_another_by_one(self):
        self.assertIsNone(said(["E", "T"], [30], 500, lo=10, hi=30, e=2))
        self.assertEqual(said(["E", "T"], [30], 500, lo=11, hi=30, e=2), "E")
        self.assertEqual(said(["I", "M"], [30, 10, 30], 500, lo=10, hi=30), "M")
        self.assertEqual(said(["I", "M"], [30, 30, 30], 500, lo=10, hi=30), "I")

    def test_lengths_beyond_1000000_ticks(self):
        widest = dict(lo=4096, hi=4096, e=4095)
        self.assertIsNone(said(["E", "T"], [1000001], 5000000, **widest))
        self.assertIsNone(said(["ET"], [4096, 1999999999, 12288], 100000, **widest))
        self.assertEqual(said(["E", "T"], [4096], 1000000, **widest), "E")
        self.assertEqual(said(["E", "T"], [4096], 1000001, **widest), "E")
        self.assertEqual(said(["E", "T"], [4096], 2000000000, **widest), "E")

    def test_a_long_while_ahead_of_the_first_mark(self):
        self.assertEqual(tail(ONE_E, [at(2000000000)] + say(0, 2000000000, "E", 10, 31)), [0, 0, 0, 1])


class Learnt(unittest.TestCase):
    def test_units_that_are_learnt_help(self):
        calls = opened([(0, 1, {"E": END, "T": END})], lo=10, hi=30)
        self.assertEqual(tail(calls, [down(0, 0), up(0, 30), at(900)]), [0, 0, 0])
        calls = opened([(0, 1, {"A": 1}), (0, 1, {"E": END, "T": END})], lo=10, hi=30)
        first = say(0, 0, "A", 10, 91)
        self.assertEqual(tail(calls + first, [down(0, 200), up(0, 230), at(260), at(261), BACK]), [0, 0, 0, 1, 2])

    def test_another_s_units_are_not_mine(self):
        calls = opened([(1, 0, {"A": 1}), (0, 1, {"E": END, "T": END})], lo=10, hi=30)
        self.assertEqual(tail(calls + say(1, 0, "A", 10, 91), [down(0, 200), up(0, 230), at(900)]), [0, 0, 0])

    def test_to_another_i_speak_in_the_same_units(self):
        places = [(0, 1, {"A": 1}), (0, 2, {"E": END, "T": END})]
        calls = opened(places, lo=10, hi=30)
        self.assertEqual(tail(calls + say(0, 0, "A", 10, 91), [down(0, 200), up(0, 230), at(261)]), [0, 0, 1])

    def test_learnt_a_little_then_more(self):
        """E in 12 ticks leaves 9 to 15, it's over behind 48; T in 36 leaves 11 to 13, it's over behind 42."""
        places = [(0, 1, {"E": 1}), (0, 1, {"T": 2}), (0, 1, {"E": END})]
        calls = opened(places, lo=8, hi=20, e=3)
        keyed = [down(0, 0), up(0, 12), at(60), at(61), down(0, 100), up(0, 136), at(178), at(179)]
        self.assertEqual(tail(calls, keyed), [0, 0, 0, 1, 0, 0, 0, 1])
        for length, answer in ((7, 0), (8, 1), (16, 1), (17, 0)):
            more = [down(0, 200), up(0, 200 + length), at(300)]
            self.assertEqual(tail(calls + keyed, more), [0, 0, answer], length)

    def test_in_another_unit_than_before_it_is_not_said(self):
        calls = opened([(0, 1, {"E": 0})], lo=10, hi=20) + say(0, 0, "E", 12, 37)
        self.assertEqual(tail(calls, say(0, 100, "E", 13, 99) + [AGAIN] + say(0, 400, "E", 12, 37)),
                         [0, 0, 0, 1, 0, 0, 1])

    def test_what_may_be_is_learnt_only_when_said(self):
        calls = opened([(0, 1, {"E": END})], lo=10, hi=20) + [down(0, 0), up(0, 12), at(30), AGAIN]
        self.assertEqual(tail(calls, say(0, 100, "E", 15, 46)), [0, 0, 1])


class Things64(unittest.TestCase):
    def setUp(self):
        self.calls, t = opened([(0, 1, {"E": 0, "T": 0})]), 0
        for k in range(64):
            self.calls += say(0, t, "E" if k % 3 else "T", 10, 31)
            t = ends(self.calls)
        self.t = t

    def test_64_are_said(self):
        self.assertEqual(ask(self.calls)[-192:], [0, 0, 1] * 64)

    def test_no_more_and_nothing_is_changed(self):
        t = self.t + 10
        calls = [down(0, self.t), up(0, t), at(t + 31), at(t + 900), at(t + 30), at(t + 31), at(t + 30), AGAIN]
        self.assertEqual(tail(self.calls, calls), [0, 0, -28, -28, 0, -28, 0, 1])

    def test_a_wrong_tick_comes_first(self):
        t = self.t + 10
        calls = [down(0, self.t), up(0, t), at(LATE), at(t - 1), at(t + 31)]
        self.assertEqual(tail(self.calls, calls), [0, 0, -22, -22, -28])

    def test_what_is_not_said_is_not_refused(self):
        calls = [down(0, self.t), up(0, self.t + 17), at(self.t + 500)]
        self.assertEqual(tail(self.calls, calls), [0, 0, 0])

    def test_taken_back_there_is_room_for_one(self):
        calls = [BACK] + say(0, self.t, "T", 10, 31) + [down(0, self.t + 61), up(0, self.t + 71), at(self.t + 102)]
        self.assertEqual(tail(self.calls, calls), [1, 0, 0, 1, 0, 0, -28])

    def test_all_taken_back(self):
        told = [0 if k % 3 else 1 for k in range(64)]
        self.assertEqual(tail(self.calls, [BACK] * 65), told[::-1] + [-11])


class WholeWords(unittest.TestCase):
    def test_64_words_and_the_last_is_said(self):
        names = ["".join(pair) for pair in itertools.product("ABCDEFGH", repeat=2)]
        calls = [begin()] + [word(letters) for letters in names] + [place(0, 1)]
        calls += [way(0, w, END) for w in (63, 0, 62, 7)] + [OPEN]
        self.assertEqual(tail(calls, say(0, 3, "HH", 10, 31) + [BACK])[-2:], [1, 63])
        self.assertEqual(tail(calls, say(0, 3, "HA", 10, 99))[-1:], [0])

    def test_keyed_in_pieces_with_the_time_told_between(self):
        calls = []
        for call in spell(0, 0, "SOS", 10):
            calls += [call, at(ends([call]))]
        t = ends(calls)
        before = opened([(0, 1, {"SOS": END, "SO": END})])
        self.assertEqual(tail(before, calls + [at(t + 30), at(t + 31), BACK])[-3:], [0, 1, 0])


if __name__ == "__main__":
    unittest.main()
