"""Point 9: again, back."""

import unittest

from tests.helper import AGAIN, BACK, END, ask, at, begin, down, ends, key_lengths, opened, say, spell, tail, up

LATE = 2 ** 31
ROUND = opened([(0, 1, {"E": 1, "T": END}), (1, 0, {"A": 0, "N": END})])


class Again(unittest.TestCase):
    def test_how_many_lengths_there_were(self):
        for many in range(6):
            self.assertEqual(tail(ROUND, key_lengths(0, 0, [4] * many) + [AGAIN, AGAIN])[-2:], [many, 0])

    def test_nothing_came(self):
        self.assertEqual(tail(ROUND, [AGAIN, at(50), AGAIN]), [0, 0, 0])

    def test_in_the_midst_of_a_mark(self):
        self.assertEqual(tail(ROUND, [down(0, 5), AGAIN, up(0, 9), down(0, 5)]), [0, 0, -16, 0])
        calls = [down(0, 5), up(0, 15), down(0, 25), at(30), AGAIN, up(0, 55)] + say(0, 55, "E", 10, 31)
        self.assertEqual(tail(ROUND, calls), [0, 0, 0, 0, 2, -16, 0, 0, 1])

    def test_what_came_before_does_not_count(self):
        calls = [down(0, 5), up(0, 15), AGAIN, at(46), AGAIN] + say(0, 50, "T", 10, 31) + [BACK]
        self.assertEqual(tail(ROUND, calls), [0, 0, 1, 0, 0, 0, 0, 1, 1])

    def test_now_stays(self):
        self.assertEqual(tail(ROUND, [down(0, 5), up(0, 15), at(20), AGAIN, at(19), down(0, 19), down(0, 20)]),
                         [0, 0, 0, 1, -22, -22, 0])

    def test_at_the_end(self):
        self.assertEqual(tail(ROUND + say(0, 0, "T", 10, 31), [AGAIN, BACK]), [0, 1])

    def test_what_was_said_and_learnt_stays(self):
        calls = opened([(0, 1, {"E": 0})], lo=10, hi=20) + say(0, 0, "E", 12, 37) + [down(0, 99), AGAIN]
        self.assertEqual(tail(calls, say(0, 100, "E", 13, 99) + [AGAIN] + say(0, 300, "E", 12, 37) + [BACK, BACK]),
                         [0, 0, 0, 1, 0, 0, 1, 0, 0])

    def test_not_open(self):
        self.assertEqual(ask([begin(), AGAIN]), [0, -6])


class Back(unittest.TestCase):
    def test_nothing_was_said(self):
        self.assertEqual(tail(ROUND, [BACK, down(0, 0), BACK, up(0, 10), at(20), BACK, at(41), BACK, BACK]),
                         [-11, 0, -11, 0, 0, -11, 1, 0, -11])

    def test_refused_what_came_stays(self):
        self.assertEqual(tail(ROUND, [down(0, 0), BACK, up(0, 10), BACK, AGAIN]), [0, -11, 0, -11, 1])

    def test_the_word(self):
        for letters, number in (("E", 0), ("T", 1)):
            self.assertEqual(tail(ROUND + say(0, 0, letters, 10, 31), [BACK]), [number])

    def test_it_is_at_its_place(self):
        calls = say(0, 0, "E", 10, 31) + [down(1, 50), BACK, up(1, 51), down(1, 60), down(0, 60)]
        self.assertEqual(tail(ROUND, calls), [0, 0, 1, 0, 0, -1, -1, 0])

    def test_nothing_came(self):
        calls = say(0, 0, "E", 10, 31) + [down(1, 50), up(1, 60), BACK, AGAIN, down(0, 60)]
        self.assertEqual(tail(ROUND, calls), [0, 0, 1, 0, 0, 0, 0, 0])

    def test_in_the_midst_of_a_mark_the_key_is_up(self):
        calls = say(0, 0, "E", 10, 31) + [down(1, 50), BACK, up(0, 55)] + say(0, 60, "T", 10, 31)
        self.assertEqual(tail(ROUND, calls), [0, 0, 1, 0, 0, -16, 0, 0, 1])

    def test_now_stays(self):
        calls = say(0, 0, "E", 10, 31) + [at(70), BACK, at(69), down(0, 69), down(0, 70)]
        self.assertEqual(tail(ROUND, calls), [0, 0, 1, 0, 0, -22, -22, 0])

    def test_back_from_the_end(self):
        calls = say(0, 0, "T", 10, 31) + [down(0, 99), BACK] + say(0, 99, "E", 10, 31) + [down(1, 200)]
        self.assertEqual(tail(ROUND, calls), [0, 0, 1, -1, 1, 0, 0, 1, 0])

    def test_twice(self):
        calls = say(0, 0, "E", 10, 31) + say(1, 50, "A", 10, 31) + [BACK, down(0, 200), BACK, down(1, 200)]
        self.assertEqual(tail(ROUND, calls + [down(0, 200), BACK])[-6:], [2, -1, 0, -1, 0, -11])

    def test_a_place_that_comes_to_itself(self):
        calls = opened([(0, 1, {"E": 0, "T": 0})])
        for k, letters in enumerate("ETTE"):
            calls += say(0, 100 * k, letters, 10, 31)
        self.assertEqual(tail(calls, [BACK] * 5), [0, 1, 1, 0, -11])

    def test_what_was_learnt_is_taken_back(self):
        calls = opened([(0, 1, {"E": 0})], lo=10, hi=20)
        other = say(0, 100, "E", 13, 40)
        self.assertEqual(tail(calls + say(0, 0, "E", 12, 37), other), [0, 0, 0])
        self.assertEqual(tail(calls + say(0, 0, "E", 12, 37) + [BACK], other), [0, 0, 1])

    def test_only_what_was_learnt_by_the_last_thing_is(self):
        """E in 12 and T in 36 with a slack of 3 leave 9 to 15, then 11 to 13; E in 7 is 1 of 10 at most."""
        calls = opened([(0, 1, {"E": 0, "T": 0})], lo=9, hi=20, e=3)
        calls += [down(0, 0), up(0, 12), at(70), down(0, 100), up(0, 136), at(190)]
        seven, six = [down(0, 200), up(0, 207), at(300)], [down(0, 200), up(0, 206), at(300)]
        self.assertEqual(tail(calls, seven), [0, 0, 0])
        self.assertEqual(tail(calls + [BACK], seven), [0, 0, 1])
        nineteen = [down(0, 200), up(0, 219), at(300)]
        self.assertEqual(tail(calls + [BACK], six), [0, 0, 1])
        self.assertEqual(tail(calls + [BACK], nineteen), [0, 0, 0])
        self.assertEqual(tail(calls + [BACK, BACK], nineteen), [0, 0, 1])

    def test_the_units_of_its_speaker_alone(self):
        """Behind one thing of each, the second's is taken back: the first's stays learnt."""
        places = [(0, 1, {"E": 1}), (1, 0, {"E": 0})]
        calls = opened(places, lo=10, hi=20) + say(0, 0, "E", 12, 37) + say(1, 100, "E", 15, 46) + [BACK]
        self.assertEqual(tail(calls, say(1, 200, "E", 17, 52) + say(0, 300, "E", 13, 90)), [0, 0, 1, 0, 0, 0])
        self.assertEqual(tail(calls, say(1, 200, "E", 17, 52) + say(0, 300, "E", 12, 37)), [0, 0, 1, 0, 0, 1])
        self.assertEqual(tail(calls + [BACK], say(0, 300, "E", 13, 40)), [0, 0, 1])

    def test_taken_back_is_as_before(self):
        """Whatever is said and taken back in between, what comes behind is answered alike."""
        places = [(0, 1, {"E": 1, "T": 2}), (1, 0, {"A": 0, "N": 2}), (1, 0, {"E": 0, "A": END})]
        calls = opened(places, lo=10, hi=24, e=3) + say(0, 0, "E", 15, 76)
        behind = say(1, 1000, "N", 12, 76) + say(1, 2000, "E", 12, 76) + say(0, 3000, "T", 15, 76)
        detour = say(1, 100, "A", 20, 76) + say(0, 400, "T", 16, 76) + say(1, 600, "E", 21, 76)
        without = tail(calls, [at(900)] + behind + [BACK] * 5)
        back = tail(calls + detour, [BACK] * 3 + [at(900)] + behind + [BACK] * 5)
        self.assertEqual(back[:3], [0, 1, 2])
        self.assertEqual(back[3:], without)
        self.assertEqual(without[-6:], [1, 1, 0, 3, 0, -11])

    def test_not_open(self):
        self.assertEqual(ask([begin(), BACK]), [0, -6])

    def test_at_the_last_tick(self):
        calls = spell(0, LATE - 42, "E", 10) + [at(LATE - 1), BACK, down(0, LATE - 1), up(0, LATE)]
        self.assertEqual(ends(calls), LATE)
        self.assertEqual(tail(ROUND, calls), [0, 0, 1, 0, 0, -22])


if __name__ == "__main__":
    unittest.main()
