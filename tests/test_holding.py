"""What holds (a to f), over talks that are played whole."""

import itertools
import unittest

from tests.helper import (AGAIN, BACK, END, LIKELY, MANY, MAY, OPEN, TURN, Chance, Oracle, at, begin, down, ends, look,
                          opened, part_rows, rows, said, say, spell, tail_rows, units, up)

# One tells the two others, who answer, and all know the whole time what to do.
THREE = [
    (0, 1, {"HI": 1, "QRX": 0}),
    (1, 0, {"OK": 2, "NO": 3}),
    (0, 2, {"HI": 4, "ET": 4}),
    (0, 2, {"QRX": 0}),
    (2, 0, {"E": 5, "T": 5}),
    (0, 1, {"QRX": 0, "SK": 6}),
    (0, 2, {"SK": END}),
]
# Words that are the same in other units.
SHORT_OR_LONG = [(0, 1, {"E": 1, "T": 1, "A": 1}), (1, 2, {"I": 2, "TT": 2, "M": 2, "EE": 2}), (2, 0, {"T": 0, "E": 0})]
MOST_CALLS = 560


class Played:
    """A talk in which each in turn spells a word of the place in their unit, each length off by e at most, and waits
    longer than 3 units of the greatest and e; what isn't said by then is given up, and something is spelt again."""

    def __init__(self, seed, wide, places=None):
        chance = Chance(seed)
        self.pick = chance.pick
        if wide:
            chance.few = ["E", "T", "EE", "TT", "I", "M", "ET"]
        self.p = 3 if places else 2 + seed % 3
        told = opened(places, p=3) if places else chance.told(self.p) + [OPEN]
        self.lo = self.pick.randint(3, 60)
        self.e = self.pick.randint(0, (self.lo - 1) // (1 if wide else 3))
        self.hi = 4 * self.lo if wide else 3 * self.lo - 2 * self.e - 1
        self.own = [self.pick.randint(self.lo, self.hi) for _ in range(self.p)]
        self.calls = [begin(self.p, self.lo, self.hi, self.e)] + told[1:]
        oracle = Oracle()
        oracle.ask(self.calls)
        self.words, self.places = oracle.s["words"], oracle.s["places"]
        self.here, self.tick = 0, 0
        # Of each word that's spelt: where its calls begin and end, the place, the word, whether it's said.
        self.spelt = []
        while self.here != END and len(self.calls) < MOST_CALLS - 120 and len(self.spelt) < 14:
            self.go_on()

    def keyed(self, c, w):
        off = (self.pick.randint(-self.e, self.e) for _ in itertools.count())
        calls = []
        for call in spell(c, self.tick, self.words[w], self.own[c], off):
            if calls and self.pick.random() < 0.2:
                calls.append(at(self.pick.randint(ends(calls), ends([call]))))
            calls.append(call)
        return calls

    def go_on(self):
        start, place = len(self.calls), self.here
        c, _, ways = self.places[place]
        w = self.pick.choice(list(ways))
        self.calls += self.keyed(c, w)
        up_at, wait = ends(self.calls), 3 * self.hi + self.e
        self.calls += [at(up_at + self.pick.randint(0, wait)), at(up_at + wait + 1)]
        self.tick = ends(self.calls) + self.pick.randint(0, 20)
        done = [row[0] for row in rows(self.calls)[-2:]]
        assert done in ([0, 0], [0, 1], [1, 0]), done
        self.spelt.append((start, len(self.calls), place, w, 1 in done))
        if 1 in done:
            self.here = ways[w]
        else:
            self.calls.append(AGAIN)

    def things(self):
        return [one for one in self.spelt if one[4]]


def all_played(wide):
    for seed in range(30):
        yield seed, Played(seed, wide)
    for seed in range(30, 42):
        yield seed, Played(seed, wide, THREE)
    for seed in range(42, 60):
        yield seed, Played(seed, wide, SHORT_OR_LONG)


class WhatHolds(unittest.TestCase):
    @classmethod
    def setUpClass(cls):
        cls.narrow = list(all_played(False))
        cls.wide = list(all_played(True))

    def test_they_are_talks(self):
        """Else what follows would hold of nothing."""
        self.assertGreater(sum(len(played.things()) for _, played in self.narrow), 200)
        self.assertGreater(sum(len(played.things()) for _, played in self.wide), 100)
        self.assertGreater(sum(len(played.spelt) - len(played.things()) for _, played in self.wide), 20)
        self.assertTrue(any(played.here == END for _, played in self.narrow))

    def test_a_where_the_range_is_narrow_all_is_said_at_once(self):
        for seed, played in self.narrow:
            self.assertLess(played.hi + 2 * played.e, 3 * played.lo)
            self.assertTrue(all(one[4] for one in played.spelt), seed)

    def test_a_what_is_said_is_never_another_word(self):
        for seed, played in self.narrow + self.wide:
            things = played.things()
            answered = tail_rows(played.calls, [MANY] + [said(k) for k in range(len(things) + 1)])
            self.assertEqual(answered[0], [len(things)], seed)
            expected = [[0, place, w] for _, _, place, w, _ in things] + [[-2]]
            self.assertEqual([row[:3] for row in answered[1:]], expected, seed)

    def test_a_each_one_s_unit_always_may_be_theirs(self):
        for seed, played in self.narrow + self.wide:
            for _, end, _, _, _ in played.spelt:
                answered = tail_rows(played.calls[:end], [units(c) for c in range(played.p)])
                for own, (many, least, greatest) in zip(played.own, answered):
                    self.assertTrue(least <= own <= greatest, seed)
                    self.assertEqual(many, greatest - least + 1)

    def test_b_known_early_known_rightly(self):
        known = 0
        for seed, played in self.narrow + self.wide:
            for start, end, place, w, _ in played.spelt:
                keyed = [k for k in range(start, end) if played.calls[k][0] in (5, 6)]
                for many in range(start, max(keyed) + 2):
                    likely, turn, may = tail_rows(played.calls[:many], [LIKELY, TURN, MAY])
                    self.assertEqual(turn[1], place)
                    self.assertIn(likely, ([w], [-33]), seed)
                    by_word = dict(zip(may[1::2], may[2::2]))
                    self.assertGreater(by_word[w], 0, seed)
                    self.assertEqual(likely == [w], len([one for one in by_word.values() if one]) == 1)
                    known += likely == [w] and len(by_word) > 1
        self.assertGreater(known, 500)

    def test_c_learnt_for_ever(self):
        learnt = 0
        for seed, played in self.narrow + self.wide:
            before = [[played.hi - played.lo + 1, played.lo, played.hi]] * played.p
            for _, end, place, _, is_said in played.spelt:
                behind = tail_rows(played.calls[:end], [units(c) for c in range(played.p)])
                for c, (one, other) in enumerate(zip(before, behind)):
                    self.assertTrue(one[1] <= other[1] <= other[2] <= one[2], seed)
                    if not is_said or played.places[place][0] != c:
                        self.assertEqual(one, other)
                    learnt += one != other
                before = behind
        self.assertGreater(learnt, 100)

    def test_d_a_way_through_the_script(self):
        for seed, played in self.narrow + self.wide:
            many = len(played.things())
            here = 0
            for _, place, w, _ in tail_rows(played.calls, [said(k) for k in range(many)]):
                self.assertEqual(place, here, seed)
                self.assertIn(w, played.places[here][2])
                here = played.places[here][2][w]
            expected = [0] if here == END else [1, here] + list(played.places[here][:2])
            self.assertEqual(tail_rows(played.calls, [TURN]), [expected])

    def test_d_each_one_s_own_a_way_through_their_part(self):
        for seed, played in self.narrow + self.wide:
            things = tail_rows(played.calls, [said(k) for k in range(len(played.things()))])
            for c in range(played.p):
                found, i = part_rows(played.calls, c), 0
                for _, place, w, _ in things:
                    speaker, hearer, _ = played.places[place]
                    if c in (speaker, hearer):
                        self.assertEqual(found[i][:2], [1, hearer] if c == speaker else [2, speaker], seed)
                        i = dict(zip(found[i][3::2], found[i][4::2]))[w]
                if played.here == END:
                    self.assertEqual(found[i], [0, 0, 0], seed)

    def test_e_taken_back_is_as_before(self):
        for seed, played in self.narrow + self.wide:
            question = look(played.p, len(played.words), 14)
            for start, end, _, w, is_said in played.spelt:
                if is_said:
                    expected = tail_rows(played.calls[:start], question)
                    answered = tail_rows(played.calls[:end], [BACK] + question)
                    self.assertEqual(answered, [[w]] + expected, seed)

    def test_e_all_taken_back_is_as_at_first(self):
        for seed, played in self.narrow + self.wide:
            question = look(played.p, len(played.words), 2)
            things = played.things()
            opening = played.calls.index(OPEN) + 1
            answered = tail_rows(played.calls, [BACK] * len(things) + question)
            self.assertEqual(answered[:len(things)], [[w] for _, _, _, w, _ in things[::-1]])
            self.assertEqual(answered[len(things):], tail_rows(played.calls[:opening], question), seed)

    def test_e_now_stays(self):
        for seed, played in self.narrow[:10]:
            now = max(call[-1] for call in played.calls if call[0] in (5, 6, 7))
            self.assertEqual(tail_rows(played.calls, [BACK, at(now - 1), at(now)])[1:], [[-22], [0]], seed)

    def test_f_what_is_refused_changes_nothing(self):
        wrong = [begin(1), [1, 1, 69], [2, 0, 1], [3, 0, 0, END], OPEN, down(99, 0), up(99, 0), at(2 ** 31)]
        for seed, played in self.narrow[::3] + self.wide[::3]:
            question = look(played.p, len(played.words), 14)
            for many in range(played.calls.index(OPEN) + 1, len(played.calls), 11):
                expected = tail_rows(played.calls[:many], question)
                answered = tail_rows(played.calls[:many], wrong + question)
                self.assertTrue(all(row[0] < 0 and len(row) == 1 for row in answered[:len(wrong)]), seed)
                self.assertEqual(answered[len(wrong):], expected, seed)


class RefusedByChance(unittest.TestCase):
    def test_f_what_is_refused_changes_nothing(self):
        refused = set()
        for seed in range(40):
            calls, expected = Chance(seed).talk(140, 2 + seed % 3)
            question = look(2 + seed % 3, 6, 10)
            for k in range(calls.index(OPEN) + 1, len(calls)):
                if expected[k] < 0:
                    answered = tail_rows(calls[:k], question + [calls[k]] + question)
                    self.assertEqual(answered[:len(question)], answered[len(question) + 1:], seed)
                    refused.add((calls[k][0], expected[k]))
        self.assertLessEqual({(1, -16), (4, -16), (5, -1), (5, -16), (5, -22), (6, -16), (6, -22), (7, -22), (9, -11)},
                             refused)

    def test_c_units_come_back_by_taking_back_alone(self):
        grown = 0
        for seed in range(60):
            p = 2 + seed % 3
            calls, expected = Chance(seed).talk(110, p)
            start, strewn = calls.index(OPEN) + 1, []
            for call in calls[start:]:
                strewn += [call] + [units(c) for c in range(p)]
            answered = tail_rows(calls[:start], [units(c) for c in range(p)] + strewn)
            rows_of_units = [answered[:p]] + [answered[k + 1:k + 1 + p] for k in range(p, len(answered), p + 1)]
            for k, call in enumerate(calls[start:]):
                for one, other in zip(rows_of_units[k], rows_of_units[k + 1]):
                    if call != BACK or expected[start + k] < 0:
                        self.assertTrue(one[1] <= other[1] <= other[2] <= one[2], seed)
                    else:
                        self.assertTrue(other[1] <= one[1] <= one[2] <= other[2], seed)
                        grown += one != other
                if call[0] != 9 and (call[0] != 7 or expected[start + k] != 1):
                    self.assertEqual(rows_of_units[k], rows_of_units[k + 1], seed)
        self.assertGreater(grown, 10)


class Corners(unittest.TestCase):
    """As the document lists them behind What holds."""

    def test_a_script_of_one_place(self):
        before = opened([(1, 0, {"73": END})])
        self.assertEqual(tail_rows(before, [TURN, MAY, LIKELY, MANY]), [[1, 0, 1, 0], [1, 0, 1], [0], [0]])
        calls = say(1, 9, "73", 10, 31) + [TURN, MAY, LIKELY, MANY, said(0), BACK, TURN, MAY, LIKELY, MANY, said(0)]
        t = ends(calls[:-11])
        self.assertEqual(tail_rows(before, calls)[-12:], [
            [1], [0], [0], [-11], [1], [0, 0, 0, t], [0], [1, 0, 1, 0], [1, 0, 1], [0], [0], [-2]])
        self.assertEqual(part_rows(before, 0), [[2, 1, 1, 0, 1], [0, 0, 0]])

    def test_words_of_which_one_is_another_s_beginning(self):
        """E, I, EE and S begin alike: the gap tells E from the others, and its length those from one another."""
        before = opened([(0, 1, {"E": 0, "I": 0, "EE": 0, "S": 0})])
        calls = [down(0, 0), up(0, 10), at(20), at(21), at(40), at(41)]
        strewn = [one for call in calls for one in (call, LIKELY, MAY)]
        self.assertEqual(tail_rows(before, strewn), [
            [0], [-33], [4, 0, 1, 1, 1, 2, 1, 3, 1], [0], [-33], [4, 0, 1, 1, 1, 2, 1, 3, 1],
            [0], [-33], [4, 0, 1, 1, 1, 2, 1, 3, 1], [0], [-33], [4, 0, 1, 1, 0, 2, 1, 3, 0],
            [0], [-33], [4, 0, 1, 1, 0, 2, 1, 3, 0], [1], [-33], [4, 0, 1, 1, 1, 2, 1, 3, 1]])
        calls = [down(0, 0), up(0, 10), down(0, 40), LIKELY, up(0, 50), at(80), LIKELY, at(81), said(0)]
        self.assertEqual(tail_rows(before, calls)[3:], [[2], [0], [0], [2], [1], [0, 0, 2, 81]])
        calls = [down(0, 0), up(0, 10), down(0, 20), LIKELY, up(0, 30), LIKELY, at(40), LIKELY, at(41), LIKELY, at(61)]
        self.assertEqual(tail_rows(before, calls)[3:], [[-33], [0], [-33], [0], [-33], [0], [1], [1]])

    def test_t_and_e_where_the_range_is_wide(self):
        before = opened([(0, 1, {"T": 0, "E": 0})], lo=10, hi=30)
        calls = [down(0, 0), up(0, 30), at(900), LIKELY, MAY, MANY, units(0), AGAIN, MAY]
        self.assertEqual(tail_rows(before, calls)[2:],
                         [[0], [-33], [2, 0, 1, 1, 1], [0], [21, 10, 30], [1], [2, 0, 21, 1, 21]])
        calls = [down(0, 0), up(0, 33), LIKELY, at(66), at(67), units(0), said(0)]
        self.assertEqual(tail_rows(before, calls)[2:], [[0], [0], [1], [1, 11, 11], [0, 0, 0, 67]])
        calls = [down(0, 0), up(0, 29), LIKELY, at(116), at(117), units(0), said(0)]
        self.assertEqual(tail_rows(before, calls)[2:], [[1], [0], [1], [1, 29, 29], [0, 0, 1, 117]])

    def test_said_only_as_another_s_units_are_learnt(self):
        """30 ticks are T or E till another word leaves 10 alone; units that are learnt of someone else don't help."""
        places = [(0, 1, {"A": 2, "T": 2, "E": 2}), (1, 0, {"A": 2}), (0, 1, {"T": END, "E": END})]
        before = opened(places, lo=10, hi=30)
        self.assertEqual(tail_rows(before, [down(0, 0), up(0, 30), at(900), LIKELY])[2:], [[0], [-33]])
        learnt = before + say(0, 0, "A", 10, 91)
        self.assertEqual(tail_rows(learnt, [units(0), units(1)]), [[1, 10, 10], [21, 10, 30]])
        calls = [down(0, 200), up(0, 230), LIKELY, at(260), at(261), said(1)]
        self.assertEqual(tail_rows(learnt, calls)[2:], [[1], [0], [1], [0, 2, 1, 261]])
        other = opened([(1, 0, {"A": 1}), (0, 1, {"T": END, "E": END})], lo=10, hi=30) + say(1, 0, "A", 10, 91)
        calls = [units(1), units(0), down(0, 200), up(0, 230), at(900), LIKELY]
        self.assertEqual(tail_rows(other, calls), [[1, 10, 10], [21, 10, 30], [0], [0], [0], [-33]])

    def test_taken_back_twice(self):
        before = opened([(0, 1, {"E": 1}), (1, 0, {"T": 0})], lo=10, hi=20, e=3)
        question = look(2, 2, 2)
        first, second = say(0, 0, "E", 13, 90), say(1, 200, "T", 15, 90)
        at_first = tail_rows(before, question)
        between = tail_rows(before + first, question)
        answered = tail_rows(before + first + second, [BACK] + question + [BACK] + question + [BACK] + question)
        many = len(question) + 1
        self.assertEqual(answered, [[1]] + between + [[0]] + at_first + [[-11]] + at_first)
        self.assertEqual(len(answered), 3 * many)
        self.assertNotEqual(between, at_first)

    def test_given_up_in_the_midst_of_a_mark(self):
        before = opened([(0, 1, {"E": 0, "T": 0})])
        question = look(2, 2, 2)
        at_first = tail_rows(before, question)
        calls = [down(0, 5), up(0, 15), down(0, 25), at(30)]
        self.assertEqual(tail_rows(before + calls, [LIKELY, AGAIN] + question + [up(0, 40)]),
                         [[-11], [2]] + at_first + [[-16]])
        self.assertEqual(tail_rows(before + calls + [AGAIN], say(0, 30, "T", 10, 31) + [said(0)]),
                         [[0], [0], [1], [0, 0, 1, 91]])

    def test_64_things(self):
        before = opened([(0, 1, {"E": 0, "T": 0})], lo=10, hi=12, e=1)
        for k in range(64):
            before += say(0, ends(before) if k else 0, "E", 11, 40)
        t = ends(before)
        calls = [MANY, units(0), down(0, t), up(0, t + 11), LIKELY, at(t + 99), MANY, LIKELY, said(63), said(64), TURN]
        self.assertEqual(tail_rows(before, calls), [
            [64], [3, 10, 12], [0], [0], [0], [-28], [64], [0], [0, 0, 0, t], [-2], [1, 0, 0, 1]])

    def test_64_words(self):
        texts = [a + b for a in "ABCDEFGH" for b in "ABCDEFGH"]
        before = opened([(0, 1, {texts[w]: END for w in (63, 0, 62)})], words=texts)
        self.assertEqual(tail_rows(before, [MAY]), [[3, 63, 1, 0, 1, 62, 1]])
        calls = say(0, 0, "HH", 10, 31) + [said(0)]
        self.assertEqual(tail_rows(before, calls)[-1][:3], [0, 0, 63])
        self.assertEqual(part_rows(before, 1), [[2, 0, 3, 0, 1, 62, 1, 63, 1], [0, 0, 0]])

    def test_a_place_that_comes_to_itself(self):
        before = opened([(0, 1, {"E": 0, "T": END})])
        calls = say(0, 0, "E", 10, 31) + say(0, 41, "E", 10, 31) + [TURN, MANY, said(0), said(1)]
        self.assertEqual(tail_rows(before, calls)[-4:], [[1, 0, 0, 1], [2], [0, 0, 0, 41], [0, 0, 0, 82]])
        self.assertEqual(part_rows(before, 1), [[2, 0, 2, 0, 0, 1, 1], [0, 0, 0]])

    def test_the_end(self):
        before = opened([(0, 1, {"E": END})], lo=10, hi=20) + say(0, 0, "E", 15, 46)
        calls = [TURN, MAY, LIKELY, MANY, down(0, 99), up(1, 99), at(99), AGAIN, units(0), TURN, BACK, TURN, units(0)]
        self.assertEqual(tail_rows(before, calls), [
            [0], [0], [-11], [1], [-1], [-1], [0], [0], [1, 15, 15], [0], [0], [1, 0, 0, 1], [11, 10, 20]])

    def test_a_part_that_is_not_clear(self):
        before = opened([(0, 1, {"E": 1, "T": END}), (1, 2, {"E": END})])
        calls = [OPEN, TURN, MAY, LIKELY, said(0), MANY, units(0), [16, 0, 0, 9], [18, 0], [19, 0, 0], [17, 0]]
        self.assertEqual(tail_rows(before, calls), [[-71]] + [[-6]] * 9 + [[1, 69]])

    def test_160_lengths(self):
        before = opened([(0, 1, {"E": END, "T": 0})])
        t, calls = 1, [down(0, 0)]
        for k in range(160):
            calls.append(down(0, t) if k % 2 else up(0, t))
            t += 1
        question = look(2, 2, 1)
        answered = tail_rows(before + calls, question + [up(0, t)] + question + [AGAIN] + question)
        many = len(question)
        self.assertEqual(answered[:many], answered[many + 1:2 * many + 1])
        self.assertEqual([answered[many], answered[2 * many + 1]], [[-28], [160]])
        self.assertEqual(answered[1:3], [[2, 0, 0, 1, 0], [-11]])
        self.assertEqual(answered[2 * many + 2:], tail_rows(before, question))


if __name__ == "__main__":
    unittest.main()
