"""Points 10 to 14: turn, may, likely, said, many, units, lengths, letters; and the row ahead of them."""

import unittest

from tests.helper import (AGAIN, BACK, CODES, END, LIKELY, MANY, MAY, OPEN, TURN, Chance, Oracle, at, begin, down, ends,
                          key_lengths, lengths, letters_of, look, opened, part, pattern, place, rows, said, say,
                          states, tail_rows, units, up, way, word)

MOST = 4294967295
# Words: E 0, T 1, A 2, N 3.
ROUND = opened([(0, 1, {"E": 1, "T": END}), (1, 0, {"A": 0, "N": END})])
E_OR_T = opened([(0, 1, {"E": END, "T": END})], lo=10, hi=30, e=2)


def asked_behind(before, calls, question):
    """What one question is answered ahead of the calls, and behind each of them."""
    strewn = [question]
    for call in calls:
        strewn += [call, question]
    return tail_rows(before, strewn)[::2]


def asked_last(before, calls, question):
    return tail_rows(before, list(calls) + [question])[-1]


class Turn(unittest.TestCase):
    def test_at_first_it_is_at_place_0(self):
        self.assertEqual(tail_rows(ROUND, [TURN]), [[1, 0, 0, 1]])
        self.assertEqual(tail_rows(opened([(5, 3, {"E": END})], p=8), [TURN]), [[1, 0, 5, 3]])

    def test_behind_what_is_said(self):
        calls = say(0, 0, "E", 10, 31)
        self.assertEqual(asked_behind(ROUND, calls, TURN), [[1, 0, 0, 1]] * 3 + [[1, 1, 1, 0]])
        self.assertEqual(tail_rows(ROUND + calls + say(1, 50, "A", 10, 31), [TURN]), [[1, 0, 0, 1]])

    def test_at_its_end(self):
        self.assertEqual(tail_rows(ROUND + say(0, 0, "T", 10, 31), [TURN]), [[0]])

    def test_behind_back(self):
        calls = say(0, 0, "E", 10, 31) + say(1, 50, "N", 10, 31)
        self.assertEqual(asked_behind(ROUND + calls, [BACK, BACK], TURN), [[0], [1, 1, 1, 0], [1, 0, 0, 1]])

    def test_a_place_that_comes_to_itself(self):
        before = opened([(1, 0, {"E": 1}), (0, 1, {"E": 1})]) + say(1, 0, "E", 10, 31)
        self.assertEqual(asked_behind(before, say(0, 50, "E", 10, 31), TURN), [[1, 1, 0, 1]] * 4)

    def test_the_greatest_place(self):
        places = [(k % 2, 1 - k % 2, {"E": k + 1}) for k in range(31)] + [(1, 0, {"E": 31})]
        before, t = opened(places), 0
        for k in range(31):
            before += say(k % 2, t, "E", 10, 31)
            t = ends(before)
        self.assertEqual(tail_rows(before, [TURN]), [[1, 31, 1, 0]])


class May(unittest.TestCase):
    def test_before_something_came(self):
        self.assertEqual(asked_behind(E_OR_T, [at(500), at(2000000)], MAY), [[2, 0, 21, 1, 21]] * 3)

    def test_ways_as_they_were_told(self):
        calls = [begin(2, 10, 12, 0)] + [word(letters) for letters in "ETANI"] + [place(0, 1)]
        calls += [way(0, w, END) for w in (3, 0, 4, 2)] + [OPEN]
        self.assertEqual(tail_rows(calls, [MAY]), [[4, 3, 3, 0, 3, 4, 3, 2, 3]])
        self.assertEqual(asked_last(calls, [down(0, 0), up(0, 11)], MAY), [4, 3, 0, 0, 1, 4, 1, 2, 1])

    def test_one_way(self):
        self.assertEqual(tail_rows(opened([(0, 1, {"E": END})]), [MAY]), [[1, 0, 1]])

    def test_the_greatest_range(self):
        before = opened([(0, 1, {"E": END, "T": 0})], lo=1, hi=4096)
        self.assertEqual(tail_rows(before, [MAY]), [[2, 0, 4096, 1, 4096]])

    def test_while_a_mark_goes_on(self):
        """By now it has lasted no longer than 1 or 3 units and 2 ticks."""
        calls = [down(0, 100), at(112), at(113), at(132), at(133), at(134), at(191), at(192), at(193)]
        self.assertEqual(asked_behind(E_OR_T, calls, MAY), [
            [2, 0, 21, 1, 21], [2, 0, 21, 1, 21], [2, 0, 21, 1, 21], [2, 0, 20, 1, 21], [2, 0, 1, 1, 21],
            [2, 0, 0, 1, 20], [2, 0, 0, 1, 20], [2, 0, 0, 1, 1], [2, 0, 0, 1, 1], [2, 0, 0, 1, 0]])

    def test_a_mark_that_is_over(self):
        """A length is 1 of the units that it's off by 2 at most, or 3 of them."""
        for length, short, long in ((7, 0, 0), (8, 1, 0), (12, 5, 0), (27, 5, 0), (28, 5, 1), (29, 4, 1), (30, 3, 1),
                                    (31, 2, 2), (32, 1, 2), (33, 0, 1), (60, 0, 1), (61, 0, 2), (92, 0, 1), (93, 0, 0),
                                    (1000000, 0, 0), (1000001, 0, 0)):
            self.assertEqual(asked_last(E_OR_T, [down(0, 5), up(0, 5 + length)], MAY), [2, 0, short, 1, long], length)

    def test_behind_its_end_a_gap_may_go_on(self):
        calls = [down(0, 0), up(0, 31), at(31), at(500), at(3000000)]
        self.assertEqual(asked_behind(E_OR_T, calls, MAY)[2:], [[2, 0, 2, 1, 2]] * 4)

    def test_while_a_gap_goes_on(self):
        """Of I the gap is 1 unit, of EE it's 3; both have a mark there that was 20 ticks, so 18 to 22 may be."""
        before = opened([(0, 1, {"I": END, "EE": 0})], lo=10, hi=30, e=2)
        calls = [down(0, 0), up(0, 20), at(40), at(41), at(44), at(45), at(76), at(77), at(88), at(89), at(5000)]
        self.assertEqual(asked_behind(before, calls, MAY)[2:], [
            [2, 0, 5, 1, 5], [2, 0, 5, 1, 5], [2, 0, 4, 1, 5], [2, 0, 1, 1, 5], [2, 0, 0, 1, 5],
            [2, 0, 0, 1, 5], [2, 0, 0, 1, 4], [2, 0, 0, 1, 1], [2, 0, 0, 1, 0], [2, 0, 0, 1, 0]])

    def test_a_gap_that_is_over(self):
        before = opened([(0, 1, {"I": END, "EE": 0, "EEE": 0, "E": 0})], lo=10, hi=30, e=2)
        self.assertEqual(asked_last(before, [down(0, 0), up(0, 20), down(0, 41)], MAY), [4, 0, 4, 1, 0, 2, 0, 3, 0])
        self.assertEqual(asked_last(before, [down(0, 0), up(0, 20), down(0, 80)], MAY), [4, 0, 0, 1, 1, 2, 1, 3, 0])
        self.assertEqual(asked_last(before, [down(0, 0), up(0, 20), down(0, 81)], MAY), [4, 0, 0, 1, 2, 2, 2, 3, 0])

    def test_a_word_that_is_at_its_end_is_told_no_mark(self):
        before = opened([(0, 1, {"E": END, "I": END})])
        self.assertEqual(asked_last(before, [down(0, 0), up(0, 10)], MAY), [2, 0, 1, 1, 1])
        self.assertEqual(asked_last(before, [down(0, 0), up(0, 10), down(0, 20)], MAY), [2, 0, 0, 1, 1])

    def test_no_unit_left(self):
        self.assertEqual(asked_last(ROUND, [down(0, 0), up(0, 17)], MAY), [2, 0, 0, 1, 0])
        self.assertEqual(asked_last(ROUND, [down(0, 0), at(31)], MAY), [2, 0, 0, 1, 0])
        self.assertEqual(asked_last(ROUND, key_lengths(0, 0, [10] * 160), MAY), [2, 0, 0, 1, 0])

    def test_at_its_end(self):
        before = ROUND + say(0, 0, "T", 10, 31)
        self.assertEqual(tail_rows(before, [MAY, at(999), MAY, down(0, 1000), MAY]), [[0], [0], [0], [-1], [0]])

    def test_of_what_was_learnt_of_the_speaker(self):
        """E in 12 ticks leaves 10 to 14 to 0; to 1 all of the range are left."""
        before = opened([(0, 1, {"E": 1}), (1, 0, {"E": 2, "T": 1}), (0, 1, {"T": 0, "E": 0})], lo=10, hi=30, e=2)
        calls = say(0, 0, "E", 12, 90) + say(1, 200, "E", 25, 90)
        self.assertEqual(tail_rows(before + calls[:3], [MAY]), [[2, 0, 21, 1, 21]])
        self.assertEqual(tail_rows(before + calls, [MAY]), [[2, 1, 5, 0, 5]])
        self.assertEqual(asked_last(before + calls, [down(0, 400), at(431)], MAY), [2, 1, 5, 0, 0])
        self.assertEqual(asked_last(before + calls, [down(0, 400), at(435)], MAY), [2, 1, 4, 0, 0])

    def test_behind_again_and_back(self):
        calls = [down(0, 0), up(0, 12), at(20), AGAIN]
        self.assertEqual(asked_behind(E_OR_T, calls, MAY)[3:], [[2, 0, 5, 1, 0], [2, 0, 21, 1, 21]])
        self.assertEqual(asked_behind(E_OR_T, say(0, 0, "E", 12, 45) + [BACK], MAY)[3:], [[0], [2, 0, 21, 1, 21]])


class Likely(unittest.TestCase):
    def test_more_than_one_may_be(self):
        self.assertEqual(tail_rows(ROUND, [LIKELY, at(999), LIKELY]), [[-33], [0], [-33]])

    def test_the_only_one_of_the_place(self):
        before = opened([(0, 1, {"T": END})], words=["E", "T"])
        self.assertEqual(tail_rows(before, [LIKELY, at(999), LIKELY]), [[1], [0], [1]])

    def test_known_before_it_is_said(self):
        self.assertEqual(asked_behind(ROUND, say(0, 0, "E", 10, 31), LIKELY), [[-33], [-33], [0], [-33]])
        calls = [down(0, 0), at(10), at(11), up(0, 30), at(60), at(61)]
        self.assertEqual(asked_behind(ROUND, calls, LIKELY), [[-33], [-33], [-33], [1], [1], [1], [-11]])

    def test_by_several_units_one_word(self):
        self.assertEqual(asked_last(E_OR_T, [down(0, 0), up(0, 20)], LIKELY), [0])
        self.assertEqual(asked_last(E_OR_T, [down(0, 0), up(0, 30)], LIKELY), [-33])
        self.assertEqual(asked_last(E_OR_T, [down(0, 0), up(0, 33)], LIKELY), [1])

    def test_no_word_may_be(self):
        self.assertEqual(asked_last(ROUND, [down(0, 0), up(0, 17)], LIKELY), [-11])
        self.assertEqual(asked_behind(ROUND, [down(0, 0), at(30), at(31), AGAIN], LIKELY),
                         [[-33], [-33], [1], [-11], [-33]])
        self.assertEqual(asked_last(opened([(0, 1, {"E": END})]), [down(0, 0), up(0, 9)], LIKELY), [-11])

    def test_at_its_end(self):
        before = opened([(0, 1, {"E": END})]) + say(0, 0, "E", 10, 31)
        self.assertEqual(asked_behind(before, [at(50), BACK], LIKELY), [[-11], [-11], [0]])

    def test_by_what_was_learnt(self):
        """A in units of 10 leaves 10 alone: then 30 ticks are T."""
        before = opened([(0, 1, {"A": 1}), (0, 1, {"E": END, "T": END})], lo=10, hi=30) + say(0, 0, "A", 10, 91)
        self.assertEqual(asked_behind(before, [down(0, 200), at(211), up(0, 230)], LIKELY), [[-33], [-33], [2], [2]])


class Said(unittest.TestCase):
    three = ROUND + say(0, 0, "E", 10, 31) + say(1, 50, "A", 10, 40) + say(0, 200, "T", 10, 31)

    def test_nothing_was_said(self):
        calls = [said(0), said(1), said(MOST), MANY, down(0, 0), up(0, 10), at(40), said(0), MANY]
        self.assertEqual(tail_rows(ROUND, calls), [[-2], [-2], [-2], [0], [0], [0], [0], [-2], [0]])

    def test_the_place_the_word_the_tick(self):
        self.assertEqual(tail_rows(self.three, [said(0), said(1), said(2), said(3), said(4), said(MOST), MANY]),
                         [[0, 0, 0, 41], [0, 1, 2, 140], [0, 0, 1, 261], [-2], [-2], [-2], [3]])

    def test_the_tick_is_the_one_at_which_it_is_told(self):
        calls = [down(0, 7), up(0, 17), at(20), at(47), at(5000), at(6000), said(0)]
        self.assertEqual(tail_rows(ROUND, calls)[-3:], [[1], [0], [0, 0, 0, 5000]])

    def test_behind_back(self):
        calls = [BACK, said(2), said(1), MANY, BACK, said(1), said(0), MANY, BACK, said(0), MANY, BACK, MANY]
        self.assertEqual(tail_rows(self.three, calls),
                         [[1], [-2], [0, 1, 2, 140], [2], [2], [-2], [0, 0, 0, 41], [1], [0], [-2], [0], [-11], [0]])

    def test_said_anew_behind_back(self):
        calls = [BACK] + say(0, 300, "E", 10, 31) + [said(2), MANY, TURN]
        self.assertEqual(tail_rows(self.three, calls)[-3:], [[0, 0, 0, 341], [3], [1, 1, 1, 0]])

    def test_again_leaves_what_was_said(self):
        calls = [BACK, down(0, 300), AGAIN, MANY, said(1), said(2)]
        self.assertEqual(tail_rows(self.three, calls)[-3:], [[2], [0, 1, 2, 140], [-2]])

    def test_begun_and_opened_again(self):
        self.assertEqual(tail_rows(self.three, ROUND + [said(0), MANY, TURN])[-3:], [[-2], [0], [1, 0, 0, 1]])

    def test_64_things(self):
        before, ticks = opened([(0, 1, {"E": 0, "T": 0})]), []
        for k in range(64):
            before += say(0, 7 + ends(before) if ticks else 0, "E" if k % 3 else "T", 10, 31)
            ticks.append(ends(before))
        self.assertEqual(tail_rows(before, [MANY] + [said(k) for k in range(65)]),
                         [[64]] + [[0, 0, 0 if k % 3 else 1, ticks[k]] for k in range(64)] + [[-2]])
        t = ends(before)
        self.assertEqual(tail_rows(before, say(0, t, "E", 10, 31) + [MANY, said(64), said(63)])[-4:],
                         [[-28], [64], [-2], [0, 0, 1, t]])


class UnitsCall(unittest.TestCase):
    places = [(0, 1, {"E": 1, "T": 1}), (1, 0, {"E": 0, "T": 0})]
    told = opened(places, p=3, lo=10, hi=20, e=3)

    def test_before_something_is_said(self):
        self.assertEqual(tail_rows(self.told, [units(c) for c in range(3)]), [[11, 10, 20]] * 3)
        self.assertEqual(tail_rows(opened(self.places, lo=1, hi=4096), [units(1)]), [[4096, 1, 4096]])
        self.assertEqual(tail_rows(opened(self.places, lo=4096, hi=4096, e=4095), [units(0)]), [[1, 4096, 4096]])

    def test_who_is_no_party(self):
        self.assertEqual(tail_rows(self.told, [units(3), units(4), units(MOST)]), [[-22]] * 3)
        self.assertEqual(tail_rows(opened(self.places, p=8), [units(7), units(8)]), [[1, 10, 10], [-22]])

    def test_learnt_only_when_it_is_said(self):
        """E in 14 ticks leaves 11 to 17; by 17 it's over behind 54."""
        calls = [down(0, 0), up(0, 14), at(50), at(68), at(69)]
        self.assertEqual(asked_behind(self.told, calls, units(0)), [[11, 10, 20]] * 5 + [[7, 11, 17]])

    def test_each_one_s_own(self):
        """Then T in 48 ticks leaves 15 to 17 to the other; E in 12 leaves 11 to 15 to the first."""
        calls = [down(0, 0), up(0, 14), at(99), down(1, 100), up(1, 148), at(299), down(0, 300), up(0, 312), at(399)]
        question = [units(c) for c in range(3)]
        self.assertEqual(tail_rows(self.told + calls[:3], question), [[7, 11, 17], [11, 10, 20], [11, 10, 20]])
        self.assertEqual(tail_rows(self.told + calls[:6], question), [[7, 11, 17], [3, 15, 17], [11, 10, 20]])
        self.assertEqual(tail_rows(self.told + calls, question), [[5, 11, 15], [3, 15, 17], [11, 10, 20]])
        back = tail_rows(self.told + calls, [BACK] + question + [BACK] + question + [BACK] + question)
        self.assertEqual(back[1:4], [[7, 11, 17], [3, 15, 17], [11, 10, 20]])
        self.assertEqual(back[5:8], [[7, 11, 17], [11, 10, 20], [11, 10, 20]])
        self.assertEqual(back[9:], [[11, 10, 20]] * 3)

    def test_refused_and_given_up_it_stays(self):
        calls = [down(0, 0), up(0, 14), at(99), BACK, BACK, down(0, 100), up(0, 109), AGAIN, down(1, 200)]
        self.assertEqual(asked_behind(self.told, calls, units(0))[3:], [[7, 11, 17]] + [[11, 10, 20]] * 6)

    def test_at_its_end(self):
        before = opened([(0, 1, {"E": END})], lo=10, hi=20, e=3) + [down(0, 0), up(0, 14), at(99)]
        self.assertEqual(tail_rows(before, [TURN, units(0), units(1)]), [[0], [7, 11, 17], [11, 10, 20]])


class LengthsCall(unittest.TestCase):
    told = opened([(0, 1, {"E": 1, "ET": 1}), (1, 0, {"A": 0})], words=["SOS", "000000000000", "E"], lo=10, hi=20, e=3)

    def test_in_the_least_unit_before_something_is_said(self):
        for c in (0, 1):
            self.assertEqual(tail_rows(self.told, [lengths(c, 2), lengths(c, 3), lengths(c, 4)]),
                             [[1, 10], [3, 10, 30, 30], [3, 10, 10, 30]])

    def test_each_letter_and_digit(self):
        for letters in CODES:
            before = opened([(0, 1, {letters: END})], lo=7, hi=9)
            row = [k * 7 for k in pattern(letters)]
            self.assertEqual(tail_rows(before, [lengths(0, 0)]), [[len(row)] + row], letters)

    def test_a_word_of_no_place(self):
        sos = [10, 10, 10, 10, 10, 30, 30, 10, 30, 10, 30, 30, 10, 10, 10, 10, 10]
        self.assertEqual(tail_rows(self.told, [lengths(1, 0)]), [[17] + sos])

    def test_the_longest_word(self):
        row = pattern("000000000000")
        self.assertEqual(len(row), 119)
        self.assertEqual(tail_rows(self.told, [lengths(0, 1, 119)]), [[119] + [10 * k for k in row]])
        before = opened([(0, 1, {"0": END})], lo=4096, hi=4096)
        self.assertEqual(tail_rows(before, [lengths(0, 0)]), [[9] + [12288, 4096] * 4 + [12288]])

    def test_room(self):
        for w, many in ((2, 1), (3, 3), (0, 17), (1, 119)):
            for room in (0, many - 1, many, many + 1, MOST):
                answered = tail_rows(self.told, [lengths(0, w, room)])[0]
                self.assertEqual(answered[0], many if room >= many else -28, (w, room))
                self.assertEqual(len(answered), many + 1 if room >= many else 1)

    def test_who_is_no_party_or_no_word(self):
        calls = [lengths(2, 0), lengths(MOST, 0), lengths(0, 5), lengths(0, MOST), lengths(2, 5)]
        self.assertEqual(tail_rows(self.told, calls), [[-22]] * 5)

    def test_the_first_refusal_is_answered(self):
        self.assertEqual(tail_rows(self.told, [lengths(2, 0, 0), lengths(0, 5, 0), lengths(2, 5, 0), lengths(0, 0, 0)]),
                         [[-22], [-22], [-22], [-28]])

    def test_behind_something_said_and_behind_back(self):
        """E in 18 ticks leaves 15 to 20 to 0, and 1 has not said anything."""
        calls = [down(0, 0), up(0, 18), at(99), BACK]
        self.assertEqual(asked_behind(self.told, calls, lengths(0, 4)),
                         [[3, 10, 10, 30]] * 3 + [[3, 15, 15, 45], [3, 10, 10, 30]])
        self.assertEqual(asked_behind(self.told, calls, lengths(1, 4)), [[3, 10, 10, 30]] * 5)

    def test_what_is_told_can_be_keyed(self):
        """Keyed as they're told they're always that word, by the least unit at least."""
        before = opened([(0, 1, {"SOS": 0, "K": 0})], lo=10, hi=20, e=3)
        for w in (0, 1):
            row = tail_rows(before, [lengths(0, w)])[0][1:]
            keyed = key_lengths(0, 0, row)
            self.assertEqual(tail_rows(before, keyed + [at(ends(keyed) + 64), said(0)])[-1][:3], [0, 0, w])


class Letters(unittest.TestCase):
    def test_before_it_is_open_and_behind(self):
        told = [begin(), word("SOS"), word("E5"), word("SOS")]
        question = [letters_of(0), letters_of(1), letters_of(2)]
        expected = [[3, 83, 79, 83], [2, 69, 53], [-2]]
        self.assertEqual(tail_rows(told, question), expected)
        told += [place(0, 1), way(0, 0, END)]
        self.assertEqual(tail_rows(told, question), expected)
        self.assertEqual(tail_rows(told + [OPEN], question), expected)
        self.assertEqual(tail_rows(told + [OPEN] + say(0, 0, "SOS", 10, 31), [TURN] + question), [[0]] + expected)

    def test_no_words(self):
        self.assertEqual(rows([begin(), letters_of(0), letters_of(MOST)]), [[0], [-2], [-2]])

    def test_what_was_no_word(self):
        calls = [begin(), word("e"), letters_of(0), word("E"), word(""), letters_of(0), letters_of(1)]
        self.assertEqual(rows(calls), [[0], [-22], [-2], [0], [-22], [1, 69], [-2]])

    def test_told_while_it_is_open(self):
        before = opened([(0, 1, {"E": END})])
        self.assertEqual(tail_rows(before, [word("T"), letters_of(1), letters_of(0)]), [[-16], [-2], [1, 69]])

    def test_all_letters_and_digits_and_the_longest(self):
        for text in ("ABCDEFGHIJKL", "MNOPQRSTUVWX", "YZ0123456789", "A" * 12, "0"):
            self.assertEqual(rows([begin(), word(text), letters_of(0)])[-1], [len(text)] + [ord(sign) for sign in text])

    def test_64_words(self):
        texts = [a + b for a in "ABCDEFGH" for b in "ABCDEFGH"]
        calls = [begin()] + [word(text) for text in texts] + [word("Z")] + [letters_of(w) for w in range(65)]
        self.assertEqual(rows(calls)[65:], [[-28]] + [[2, ord(text[0]), ord(text[1])] for text in texts] + [[-2]])

    def test_begun_again(self):
        before = opened([(0, 1, {"E": END, "T": END})])
        self.assertEqual(tail_rows(before, [begin(), letters_of(0), word("T"), letters_of(0), letters_of(1)]),
                         [[0], [-2], [0], [1, 84], [-2]])
        self.assertEqual(tail_rows(before, [begin(1), letters_of(0), letters_of(1)]), [[-22], [1, 69], [1, 84]])


class NotOpen(unittest.TestCase):
    questions = [TURN, MAY, LIKELY, said(0), said(MOST), MANY, units(0), units(MOST), lengths(0, 0),
                 lengths(MOST, 0, 0), states(0), states(MOST), part(0, 0), part(MOST, MOST)]

    def all_refused(self, before):
        self.assertEqual(tail_rows(before, self.questions), [[-6]] * len(self.questions))

    def test_while_it_is_told(self):
        told = [begin(), word("E"), place(0, 1), way(0, 0, END)]
        for many in range(1, 5):
            self.all_refused(told[:many])

    def test_behind_a_refused_opening(self):
        self.all_refused([begin(), OPEN])
        self.all_refused(opened([(0, 1, {"E": 1, "T": END}), (1, 2, {"E": END})]))

    def test_begun_again_while_open(self):
        self.all_refused(ROUND + say(0, 0, "E", 10, 31) + [begin()])

    def test_a_refused_begin_leaves_it_open(self):
        answered = tail_rows(ROUND + [begin(1)], self.questions)
        self.assertNotIn([-6], answered)


class Unchanging(unittest.TestCase):
    def test_asked_twice(self):
        for seed in range(25):
            chance = Chance(seed)
            calls, _ = chance.talk(90, 2 + seed % 3)
            for many in range(calls.index(OPEN) + 1, len(calls) + 1, 7):
                question = look(2 + seed % 3, 4)
                once = tail_rows(calls[:many], question)
                self.assertEqual(tail_rows(calls[:many], question + question), once + once, seed)
                self.assertEqual(tail_rows(calls[:many], question[::-1]), once[::-1], seed)

    def test_asked_between_nothing_is_changed(self):
        for seed in range(40):
            calls, expected = Chance(seed).talk(90, 2 + seed % 3)
            question = look(2 + seed % 3, 4)
            strewn = []
            for k, call in enumerate(calls):
                asked = [question[(k * 3 + j) % len(question)] for j in range(5)]
                strewn += [call] + (asked if calls.index([4]) <= k else [letters_of(k)] * 5)
            self.assertEqual([row[0] for row in rows(strewn)[::6]], expected, seed)


class ByChance(unittest.TestCase):
    def test_all_answers_are_the_document_s(self):
        seen = set()
        for seed in range(150):
            chance = Chance(seed)
            if seed % 2 == 1:
                chance.few = ["E", "T", "EE", "TT", "ET", "I"]
            calls, _ = chance.talk(130, 2 + seed % 3)
            oracle, strewn, expected = Oracle(), [], []
            for call in calls:
                expected += oracle.rows([call])
                strewn.append(call)
                for _ in range(4):
                    asked = chance.asked(oracle)
                    expected += oracle.rows([asked])
                    strewn.append(asked)
            self.assertEqual(rows(strewn), expected, seed)
            seen.update((call[0], min(row[0], 1)) for call, row in zip(strewn, expected) if call[0] > 9)
        self.assertLessEqual({(number, -6) for number in (10, 11, 12, 13, 14, 15, 16, 18, 19)}, seen)
        self.assertLessEqual({(10, 0), (10, 1), (11, 0), (11, 1), (12, -11), (12, -33), (12, 0), (12, 1), (13, -2),
                              (13, 0), (14, 0), (14, 1), (15, -22), (15, 1), (16, -22), (16, -28), (16, 1), (17, -2),
                              (17, 1), (18, -22), (18, 1), (19, -22), (19, -2), (19, 0)}, seen)


if __name__ == "__main__":
    unittest.main()
