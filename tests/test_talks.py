"""Whole talks, and what holds of all of them."""

import itertools
import unittest

from tests.helper import (AGAIN, BACK, END, OPEN, Chance, Oracle, ask, at, begin, down, ends, opened, say, spell, tail,
                          up)

# Two of three agree on something, and the third is told what came of it.
MEETING = [
    (0, 1, {"CQ": 1, "SOS": 2}),
    (1, 0, {"K": 3, "QRX": 0, "R": 0}),
    (1, 0, {"R": 3}),
    (0, 2, {"OK": 4, "NO": 4}),
    (2, 0, {"R": 5, "73": 6}),
    (0, 1, {"CQ": 1, "SOS": 2}),
    (0, 1, {"SK": END}),
]


class Ordinary(unittest.TestCase):
    def test_two_in_two_units_to_the_end_and_back(self):
        before = opened([(0, 1, {"HI": 1, "BYE": END}), (1, 0, {"HI": 0, "BYE": END})], lo=8, hi=20, e=2)
        t, calls = 0, []
        for c, letters, unit in ((0, "HI", 9), (1, "HI", 19), (0, "HI", 9), (1, "BYE", 19)):
            calls += say(c, t, letters, unit, 63)
            t = ends(calls) + 17
        answered = tail(before, calls + [BACK] * 5)
        self.assertEqual([answer for call, answer in zip(calls, answered) if call[0] == 7], [1] * 4)
        self.assertEqual(answered[-5:], [1, 0, 0, 0, -11])

    def test_a_script_of_one_place(self):
        before = opened([(1, 0, {"73": END})])
        self.assertEqual(tail(before, say(1, 9, "73", 10, 31) + [down(1, 999), at(999), BACK, BACK])[-5:],
                         [1, -1, 0, 0, -11])

    def meeting(self, spoken):
        """Each keys in turn, in a unit of their own and a little unevenly; the words that are taken back at last."""
        units, wobble, calls, t = {0: 40, 1: 61, 2: 97}, itertools.cycle((3, -2, 0, 5, -5, 1)), [], 100
        for c, letters in spoken:
            keyed = spell(c, t, letters, units[c], wobble)
            calls += keyed + [at(ends(keyed) + 306)]
            t = ends(calls)
        answered = tail(opened(MEETING, lo=35, hi=100, e=5), calls + [BACK] * (len(spoken) + 1))
        self.assertEqual([answer for call, answer in zip(calls, answered) if call[0] == 7], [1] * len(spoken))
        return answered[-len(spoken) - 1:]

    def test_three_in_three_units(self):
        told = ["CQ", "SOS", "K", "QRX", "R", "OK", "NO", "73", "SK"]
        spoken = [(0, "CQ"), (1, "QRX"), (0, "CQ"), (1, "R"), (0, "SOS"), (1, "R"), (0, "OK"), (2, "R"), (0, "CQ"),
                  (1, "K"), (0, "NO"), (2, "73"), (0, "SK")]
        self.assertEqual(self.meeting(spoken), [told.index(letters) for _, letters in spoken[::-1]] + [-11])

    def test_wrongly_keyed_given_up_and_keyed_again(self):
        before = opened(MEETING, lo=40, hi=40, e=5)
        wrong = spell(0, 0, "CK", 40)
        calls = wrong + [at(ends(wrong) + 126), down(1, 5000), AGAIN] + say(0, 5000, "CQ", 40, 126) + [down(1, 9999)]
        answered = tail(before, calls)
        self.assertEqual(answered[len(wrong):len(wrong) + 3], [0, -1, len(wrong) - 1])
        self.assertEqual(answered[-2:], [1, 0])


class AsItWasSaid(unittest.TestCase):
    def spelt(self, chance, p, wide):
        """A talk in which each in turn spells a word in their unit, and waits: of each, the answer and the word."""
        calls = chance.told(p)
        oracle = Oracle()
        oracle.ask(calls + [OPEN])
        lo = chance.pick.randint(3, 60)
        e = chance.pick.randint(0, (lo - 1) // (1 if wide else 3))
        hi = 4 * lo if wide else 3 * lo - 2 * e - 1
        calls[0] = [0, p, lo, hi, e]
        units = [chance.pick.randint(lo, hi) for _ in range(p)]
        calls, here, t, spelt = calls + [OPEN], 0, 0, []
        while here != END and len(spelt) < 20:
            c, _, ways = oracle.s["places"][here]
            w = chance.pick.choice(list(ways))
            off = (chance.pick.randint(-e, e) for _ in itertools.count())
            calls += spell(c, t, oracle.s["words"][w], units[c], off)
            calls.append(at(ends(calls) + 3 * hi + e + 1))
            t = ends(calls)
            answer, taken = ask(calls + [BACK])[-2:]
            spelt.append((answer, taken == w))
            here = ways[w]
            if answer == 0:
                break
        return spelt

    def test_where_the_range_is_narrow_all_is_said_at_once(self):
        for seed in range(40):
            for answer in self.spelt(Chance(seed), 2 + seed % 3, False):
                self.assertEqual(answer, (1, True), seed)

    def test_where_it_is_wide_never_another_word(self):
        seen = set()
        for seed in range(120):
            chance = Chance(seed)
            chance.few = ["E", "T", "EE", "TT", "I"]
            for answer, same in self.spelt(chance, 2 + seed % 3, True):
                self.assertTrue(same or answer == 0, seed)
                seen.add(answer)
        self.assertEqual(seen, {0, 1})


class ByChance(unittest.TestCase):
    def talks(self, many, most=150):
        for seed in range(many):
            chance = Chance(seed)
            if seed % 2 == 1:
                chance.few = ["E", "T", "EE", "TT", "ET", "I"]
            yield seed, chance.talk(most, 2 + seed % 3)

    def test_all_answers_are_the_document_s(self):
        seen = set()
        for seed, (calls, expected) in self.talks(150):
            self.assertEqual(ask(calls), expected, seed)
            seen.update((call[0], answer) for call, answer in zip(calls, expected) if answer < 0)
        self.assertLessEqual({(1, -16), (4, -16), (5, -1), (5, -16), (5, -22), (6, -16), (6, -22), (7, -22), (9, -11)},
                             seen)

    def test_what_is_refused_changes_nothing(self):
        for seed, (calls, expected) in self.talks(60):
            kept = [(call, answer) for call, answer in zip(calls, expected) if answer >= 0]
            self.assertLess(len(kept), len(calls))
            self.assertEqual(ask([call for call, _ in kept]), [answer for _, answer in kept], seed)

    def test_refusals_strewn_in_change_nothing(self):
        wrong = [begin(2, 5, 4), [1, 1, 97], [2, 0, 0], [3, 40, 0, 0], [5, 9, 0], [6, 9, 0], [7, 2 ** 31]]
        for seed, (calls, expected) in self.talks(40):
            strewn = []
            for k, call in enumerate(calls):
                strewn += [call, wrong[k % len(wrong)]]
            answered = ask(strewn)
            self.assertEqual(answered[::2], expected, seed)
            self.assertTrue(all(answer < 0 for answer in answered[1::2]), seed)

    def test_taken_back_all_is_as_it_was_but_now(self):
        for seed in range(40):
            chance = Chance(seed)
            calls, expected = chance.talk(120, 2 + seed % 3)
            things = sum((call[0] == 7) * answer for call, answer in zip(calls, expected) if answer > 0)
            things -= sum(1 for call, answer in zip(calls, expected) if call[0] == 9 and answer >= 0)
            told = calls[:calls.index([4]) + 1]
            now = max(call[-1] for call, answer in zip(calls, expected) if call[0] in (5, 6, 7) and answer >= 0)
            oracle = Oracle()
            oracle.ask(told + [at(now)])
            units = [chance.pick.randint(oracle.s["lo"], oracle.s["hi"]) for _ in range(oracle.s["p"])]
            behind, fresh = [], []
            while len(behind) < 100:
                more = chance.keyed(oracle, units)
                fresh += oracle.ask(more)
                behind += more
            self.assertEqual(tail(calls, [BACK] * things + [AGAIN] + behind)[things + 1:], fresh, seed)


class SeveralThings(unittest.TestCase):
    def test_up_and_down_by_turns_of_speakers(self):
        before = opened([(0, 1, {"E": 1}), (1, 0, {"E": 0})])
        calls = [down(0, 0), up(0, 10), at(41), down(0, 41), down(1, 41), up(0, 51), up(1, 51), at(82), down(0, 82)]
        self.assertEqual(tail(before, calls), [0, 0, 1, -1, 0, -1, 0, 1, 0])


if __name__ == "__main__":
    unittest.main()
