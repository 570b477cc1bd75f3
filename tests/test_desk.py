"""The interface: how calls stand in the one list, and their answers in the other."""

import os
import subprocess
import sys
import time
import unittest

from keytalk.desk import answers
from tests.helper import (BACK, END, LIKELY, MANY, MAY, OPEN, TURN, ask, at, begin, down, ends, key_lengths, lengths,
                          letters_of, opened, part, pattern, rows, said, say, script, states, two_cycles, units, up,
                          way, word)

QUESTIONS = [TURN, MAY, LIKELY, said(0), MANY, units(0), lengths(0, 1), letters_of(1), states(1), part(1, 0)]
TALK = [number for call in opened([(0, 1, {"E": 0, "T": END})]) + say(0, 0, "E", 10, 31) + QUESTIONS + [BACK, BACK]
        for number in call]
GOOD_TIME = 10
TOP = os.path.dirname(os.path.dirname(os.path.abspath(__file__)))


class TheList(unittest.TestCase):
    def test_no_calls(self):
        self.assertEqual(answers([]), [])

    def test_number_by_number(self):
        calls = [0, 2, 10, 10, 0, 1, 1, 69, 1, 3, 83, 79, 83, 1, 0, 2, 0, 1, 3, 0, 1, 255, 4, 5, 0, 7, 6, 0, 8, 7, 9,
                 8, 9, 0, 1, 0, 0, 0]
        self.assertEqual(answers(calls),
                         [1, 0, 1, 0, 1, 1, 1, -22, 1, 0, 1, 1, 1, 0, 1, 0, 1, 0, 1, 0, 1, 1, 1, -11, 1, -22])

    def test_more_numbers_in_an_answer(self):
        calls = [0, 3, 10, 12, 1, 1, 2, 69, 84, 1, 1, 75, 2, 0, 1, 3, 0, 1, 0, 3, 0, 0, 255, 4, 10, 11, 12, 13, 0, 14,
                 15, 0, 16, 1, 0, 3, 17, 0, 18, 0, 19, 0, 0, 19, 2, 0, 16, 1, 0, 2, 17, 2, 19, 0, 2]
        self.assertEqual(answers(calls), [
            1, 0, 1, 0, 1, 1, 1, 0, 1, 1, 1, 2, 1, 0,
            4, 1, 0, 0, 1,
            5, 2, 1, 3, 0, 3,
            1, -33,
            1, -2,
            1, 0,
            3, 3, 10, 12,
            4, 3, 10, 30, 30,
            3, 2, 69, 84,
            1, 2,
            8, 0, 1, 1, 2, 0, 1, 1, 0,
            4, 0, 0, 0, 0,
            1, -28, 1, -2, 1, -2])

    def test_answers_of_what_was_said_and_of_the_end(self):
        calls = [0, 2, 10, 10, 0, 1, 1, 69, 2, 0, 1, 3, 0, 0, 255, 4, 12, 5, 0, 7, 6, 0, 17, 7, 48,
                 10, 11, 12, 13, 0, 13, 1, 14, 15, 1, 15, 2]
        self.assertEqual(answers(calls), [
            1, 0, 1, 0, 1, 0, 1, 1, 1, 0, 1, 0, 1, 0, 1, 0, 1, 1,
            1, 0, 1, 0, 1, -11, 4, 0, 0, 0, 48, 1, -2, 1, 1, 3, 1, 10, 10, 1, -22])

    def test_letters_like_calls_are_letters(self):
        self.assertEqual(answers([0, 2, 10, 10, 0, 1, 4, 9, 8, 7, 4, 1, 15] + [0] * 15 + [2, 0, 1]),
                         [1, 0, 1, -22, 1, -22, 1, 0])

    def test_whole_numbers_in_a_list(self):
        answered = answers(list(TALK))
        self.assertIs(type(answered), list)
        self.assertEqual({type(number) for number in answered}, {int})

    def test_what_is_handed_in_is_not_changed(self):
        class Kept(list):
            def refuse(self, *args):
                raise AssertionError("changed")
            append = extend = insert = pop = remove = clear = sort = reverse = refuse
            __setitem__ = __delitem__ = __iadd__ = __imul__ = refuse

        handed = Kept(TALK)
        self.assertEqual(answers(handed), answers(list(TALK)))
        self.assertEqual(list(handed), TALK)

    def test_what_is_given_back_is_new_each_time(self):
        first = answers(list(TALK))
        kept = list(first)
        first.append(7)
        first[0] = 9
        self.assertEqual(answers(list(TALK)), kept)
        self.assertIsNot(answers([]), answers([]))

    def test_nothing_is_kept_from_one_time_to_the_next(self):
        first = answers(list(TALK))
        answers([number for call in opened([(1, 0, {"A": END})]) + [down(1, 50)] for number in call])
        self.assertEqual(answers(list(TALK)), first)
        self.assertEqual(ask([begin(), OPEN, down(0, 0), BACK]), [0, -61, -6, -6])

    def test_it_prints_and_reads_nothing(self):
        source = f"from keytalk.desk import answers; answers({TALK})"
        done = subprocess.run([sys.executable, "-c", source], cwd=TOP, input="", capture_output=True, text=True,
                              timeout=60)
        self.assertEqual((done.returncode, done.stdout, done.stderr), (0, "", ""))

    def test_greatest_numbers(self):
        most = 4294967295
        calls = [begin(most, most, most, most), begin(), [2, most, most], [3, most, most, most]]
        self.assertEqual(ask(calls), [-22, 0, -22, -2])
        calls = opened([(0, 1, {"E": END})]) + [[5, most, most], [6, most, most], [7, most], [5, 0, most]]
        self.assertEqual(ask(calls)[-4:], [-22] * 4)
        calls = opened([(0, 1, {"E": END})]) + [said(most), units(most), lengths(most, most, most), letters_of(most),
                                                states(most), part(most, most), part(0, most), lengths(0, 0, most)]
        self.assertEqual(rows(calls)[-8:], [[-2], [-22], [-22], [-2], [-22], [-22], [-2], [1, 10]])


class InGoodTime(unittest.TestCase):
    def timed(self, calls):
        self.assertEqual(len(calls), 700)
        start = time.perf_counter()
        answered = rows(calls)
        self.assertLess(time.perf_counter() - start, GOOD_TIME)
        return [row[0] for row in answered]

    def test_a_long_talk(self):
        calls = opened([(0, 1, {"E": 0, "T": 0, "A": 0, "N": 0})], lo=1, hi=4096)
        calls += key_lengths(0, 0, [1] * 160)
        while len(calls) < 700:
            calls.append(at(ends(calls) + 1))
        self.assertEqual(self.timed(calls)[-1], 0)

    def test_many_things(self):
        calls = opened([(0, 1, {"000000000000": 0, "E": 0})], lo=1000, hi=2000, e=900)
        while len(calls) < 690:
            calls += say(0, 200 + (ends(calls) if calls[-1] != OPEN else 0), "E", 1500, 8000)
        calls += [BACK] * (700 - len(calls))
        self.assertEqual(self.timed(calls)[-1], 1)

    def test_opened_in_vain_over_and_over(self):
        for places in (two_cycles(2), two_cycles(2, 13, 15)):
            calls = script(places)
            self.assertEqual(self.timed(calls + [OPEN] * (700 - len(calls)))[-1], -75)

    def test_a_long_row_of_places_opened_in_vain(self):
        words = ("E", "T", "A", "N")
        places = [(0, 1, {letters: k + 1 for letters in words}) for k in range(30)]
        calls = script(places + [(0, 1, {"E": 31, "T": END}), (0, 7, {"E": END})])
        self.assertEqual(self.timed(calls + [OPEN] * (700 - len(calls)))[-1], -71)

    def test_asked_over_and_over(self):
        places = two_cycles(1)
        calls = opened(places, words=["E", "T", "0" * 12], p=8, lo=1, hi=4096) + key_lengths(0, 0, [1] * 159)
        for question in (MAY, LIKELY, lengths(0, 2), states(2), part(2, 63), units(7)):
            first = rows(calls + [question])[-1][0]
            self.assertEqual(self.timed(calls + [question] * (700 - len(calls)))[-1], first)
        self.assertEqual(rows(calls + [lengths(0, 2)])[-1], [119] + pattern("0" * 12))

    def test_opened_over_and_over(self):
        calls = []
        while len(calls) < 700:
            calls += opened(two_cycles(1), p=8) + [states(2), part(2, 63)]
        self.assertIn(64, self.timed(calls[:700]))

    def test_told_over_and_over(self):
        calls = []
        while len(calls) < 700:
            calls += [begin(), word("999999999999"), [2, 0, 1], way(0, 0, 0), OPEN, down(0, 1), up(0, 2)]
        self.assertEqual(self.timed(calls[:700])[:7], [0, 0, 0, 1, 0, 0, 0])


if __name__ == "__main__":
    unittest.main()
