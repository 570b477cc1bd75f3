"""Point 15: states, part."""

import unittest

from tests.helper import (AGAIN, BACK, END, OPEN, Chance, Oracle, at, begin, down, opened, part, part_rows, rows, say,
                          states, tail_rows, two_cycles, up)

MOST = 4294967295
TWO = [(0, 1, {"E": 1, "T": END}), (1, 0, {"A": 0, "N": END})]
# 0 chooses, and 1 tells the third in either case; the words are E 0, T 1, A 2, N 3.
TOLD = [(0, 1, {"E": 1, "T": 2}), (1, 2, {"A": 3}), (1, 2, {"A": 3, "N": END}), (2, 0, {"E": 0, "T": 0})]


class Refused(unittest.TestCase):
    def test_who_is_no_party(self):
        for p in (2, 3, 8):
            before = opened(TWO, p=p)
            calls = [states(p), states(MOST), part(p, 0), part(MOST, 0), part(p, MOST)]
            self.assertEqual(tail_rows(before, calls), [[-22]] * 5)
            self.assertNotIn([-22], tail_rows(before, [states(p - 1), part(p - 1, 0), part(p - 1, 9)]))

    def test_no_such_state(self):
        self.assertEqual(tail_rows(opened(TWO), [states(0), part(0, 2), part(0, 3), part(0, MOST), part(1, 3)]),
                         [[3], [0, 0, 0, 0], [-2], [-2], [-2]])

    def test_not_open(self):
        calls = [begin(), states(0), part(0, 0), states(9), part(9, 9)]
        self.assertEqual(rows(calls)[1:], [[-6]] * 4)
        unclear = opened([(0, 1, {"E": 1, "T": END}), (1, 2, {"E": END})])
        self.assertEqual(tail_rows(unclear, [states(0), part(0, 0)]), [[-6], [-6]])

    def test_the_first_refusal_is_answered(self):
        self.assertEqual(tail_rows(opened(TWO), [part(2, 9), part(1, 9)]), [[-22], [-2]])


class Rows(unittest.TestCase):
    def test_nothing_to_do(self):
        before = opened([(3, 5, {"E": END, "T": 0})], p=8)
        for c in (0, 1, 2, 4, 6, 7):
            self.assertEqual(tail_rows(before, [states(c), part(c, 0), part(c, 1)]), [[1], [0, 0, 0, 0], [-2]], c)

    def test_speaks_and_nothing_more_behind(self):
        self.assertEqual(part_rows(opened([(0, 1, {"E": END})]), 0), [[1, 1, 1, 0, 1], [0, 0, 0]])

    def test_listens_and_nothing_more_behind(self):
        self.assertEqual(part_rows(opened([(0, 1, {"E": END})]), 1), [[2, 0, 1, 0, 1], [0, 0, 0]])
        self.assertEqual(part_rows(opened([(7, 5, {"E": END})]), 5), [[2, 7, 1, 0, 1], [0, 0, 0]])
        self.assertEqual(part_rows(opened([(7, 5, {"E": END})]), 7), [[1, 5, 1, 0, 1], [0, 0, 0]])

    def test_two_in_turn(self):
        before = opened(TWO)
        self.assertEqual(part_rows(before, 0), [[1, 1, 2, 0, 1, 1, 2], [2, 1, 2, 2, 0, 3, 2], [0, 0, 0]])
        self.assertEqual(part_rows(before, 1), [[2, 0, 2, 0, 1, 1, 2], [1, 0, 2, 2, 0, 3, 2], [0, 0, 0]])

    def test_a_place_that_comes_to_itself(self):
        before = opened([(1, 0, {"E": 0})])
        self.assertEqual(part_rows(before, 0), [[2, 1, 1, 0, 0]])
        self.assertEqual(part_rows(before, 1), [[1, 0, 1, 0, 0]])

    def test_words_rising_however_they_were_told(self):
        before = opened([(0, 1, {"N": 1, "E": END, "A": 0, "T": 1}), (1, 0, {"E": END})], words=["E", "T", "A", "N"])
        self.assertEqual(part_rows(before, 0), [[1, 1, 4, 0, 1, 1, 2, 2, 0, 3, 2], [0, 0, 0], [2, 1, 1, 0, 1]])

    def test_numbered_as_they_are_found(self):
        """Of each state in order, of its words, rising, what's behind: not by place, and not one branch first."""
        places = [(0, 1, {"E": 3, "T": 2}), (0, 1, {"E": END}), (0, 1, {"E": 1, "T": 0}), (0, 1, {"E": 3, "T": 4}),
                  (0, 1, {"T": END})]
        self.assertEqual(part_rows(opened(places), 0), [
            [1, 1, 2, 0, 1, 1, 2], [1, 1, 2, 0, 1, 1, 3], [1, 1, 2, 0, 4, 1, 0], [1, 1, 1, 1, 5], [1, 1, 1, 0, 5],
            [0, 0, 0]])

    def test_others_say_much_in_between(self):
        places = [(2, 0, {"E": 1}), (0, 1, {"E": 2}), (1, 0, {"T": 3}), (0, 2, {"A": END})]
        self.assertEqual(part_rows(opened(places), 2), [[1, 0, 1, 0, 1], [2, 0, 1, 2, 2], [0, 0, 0]])
        self.assertEqual(part_rows(opened(places), 1), [[2, 0, 1, 0, 1], [1, 0, 1, 1, 2], [0, 0, 0]])

    def test_places_that_are_never_come_to_have_no_state(self):
        self.assertEqual(part_rows(opened([(0, 1, {"E": END}), (1, 0, {"E": 0})]), 1), [[2, 0, 1, 0, 1], [0, 0, 0]])


class SeveralPlaces(unittest.TestCase):
    def test_listens_to_all_words_of_all_places(self):
        before = opened([(0, 1, {"E": 1, "T": 2}), (1, 2, {"A": 3}), (1, 2, {"E": 3, "N": 3}), (2, 0, {"T": END})])
        self.assertEqual(part_rows(before, 2), [[2, 1, 3, 0, 1, 2, 1, 3, 1], [1, 0, 1, 1, 2], [0, 0, 0]])
        self.assertEqual(part_rows(before, 1),
                         [[2, 0, 2, 0, 1, 1, 2], [1, 2, 1, 2, 3], [1, 2, 2, 0, 3, 3, 3], [0, 0, 0]])

    def test_speaks_the_same_words_at_several_places(self):
        """2 speaks at one of two places, and needn't know at which: its words are the same."""
        places = [(0, 1, {"E": 1, "T": 2}), (2, 1, {"E": 3, "T": 4}), (2, 1, {"T": 4, "E": 3}), (2, 0, {"A": 0}),
                  (2, 0, {"N": END})]
        self.assertEqual(part_rows(opened(places), 2),
                         [[1, 1, 2, 0, 1, 1, 2], [1, 0, 1, 2, 0], [1, 0, 1, 3, 3], [0, 0, 0]])

    def test_speaks_and_behind_its_word_there_are_several_places(self):
        """Behind A of 2 it goes on at one of two places, by what 0 had told to 1."""
        places = [(0, 1, {"E": 1, "T": 2}), (2, 1, {"A": 3}), (2, 1, {"A": 4}), (1, 2, {"E": END}),
                  (1, 2, {"T": 5, "E": END}), (1, 2, {"N": END})]
        self.assertEqual(part_rows(opened(places), 2), [[1, 1, 1, 2, 1], [2, 1, 2, 0, 2, 1, 3], [0, 0, 0],
                                                        [2, 1, 1, 3, 2]])

    def test_behind_a_word_all_places_that_have_it(self):
        """Of the two places one alone has E; T is at both, and behind it two places are in the state."""
        places = [(0, 1, {"E": 1, "T": 2}), (0, 2, {"E": 3, "T": 4}), (0, 2, {"T": 5}), (0, 2, {"A": END}),
                  (0, 2, {"N": END}), (0, 2, {"E": END})]
        self.assertEqual(part_rows(opened(places), 2), [
            [2, 0, 2, 0, 1, 1, 2], [2, 0, 1, 2, 3], [2, 0, 2, 0, 3, 3, 3], [0, 0, 0]])

    def test_the_third_of_four(self):
        before = opened(TOLD[:2] + [(1, 2, {"A": 3, "N": 3})] + TOLD[3:])
        self.assertEqual(part_rows(before, 2), [[2, 1, 2, 2, 1, 3, 1], [1, 0, 2, 0, 0, 1, 0]])
        self.assertEqual(part_rows(before, 0), [[1, 1, 2, 0, 1, 1, 1], [2, 2, 2, 0, 0, 1, 0]])
        self.assertEqual(part_rows(before, 1),
                         [[2, 0, 2, 0, 1, 1, 2], [1, 2, 1, 2, 0], [1, 2, 2, 2, 0, 3, 0]])

    def test_the_same_set_of_places_is_one_state(self):
        places = [(0, 1, {"E": 1, "T": 2}), (0, 2, {"E": 0, "T": 0}), (0, 2, {"E": 0, "T": 0})]
        self.assertEqual(part_rows(opened(places), 2), [[2, 0, 2, 0, 0, 1, 0]])

    def test_64_states(self):
        """One of two rounds, of 7 and 9 places, and nobody tells the third which: 63 sets behind the first place."""
        found = part_rows(opened(two_cycles(1)), 2)
        self.assertEqual(found, [[2, 0, 1, 0, k + 1] for k in range(63)] + [[2, 0, 1, 0, 1]])
        self.assertEqual(tail_rows(opened(two_cycles(1)), [part(2, 63), part(2, 64)]), [[0, 2, 0, 1, 0, 1], [-2]])

    def test_16_words(self):
        letters = "ETANIMSURWDKGOHV"
        places = [(1, 0, {"E": 1, "T": 2, "A": 3, "N": 4})]
        places += [(0, 2, {one: END for one in letters[k:k + 4]}) for k in (12, 8, 4, 0)]
        row = [number for w in range(16) for number in (w, 1)]
        self.assertEqual(part_rows(opened(places, words=list(letters)), 2), [[2, 0, 16] + row, [0, 0, 0]])


class RoundForEver(unittest.TestCase):
    def test_the_others_go_round_from_the_beginning(self):
        before = opened([(0, 1, {"E": 1}), (1, 0, {"E": 0})], p=3)
        self.assertEqual(part_rows(before, 2), [[0, 0, 0]])
        self.assertEqual(part_rows(before, 0), [[1, 1, 1, 0, 1], [2, 1, 1, 0, 0]])

    def test_the_others_go_round_behind_what_it_said(self):
        before = opened([(2, 0, {"E": 1}), (0, 1, {"E": 2}), (1, 0, {"E": 1})])
        self.assertEqual(part_rows(before, 2), [[1, 0, 1, 0, 1], [0, 0, 0]])

    def test_they_go_round_or_end(self):
        """Behind E they go round for ever, behind T it's over: to the third both are the same."""
        before = opened([(2, 0, {"E": 1, "T": 2}), (0, 1, {"E": 1}), (0, 1, {"T": END})])
        self.assertEqual(part_rows(before, 2), [[1, 0, 2, 0, 1, 1, 1], [0, 0, 0]])
        self.assertEqual(part_rows(before, 1), [[2, 0, 2, 0, 1, 1, 2], [2, 0, 1, 0, 1], [0, 0, 0]])

    def test_they_may_go_round_as_long_as_they_like(self):
        before = opened([(0, 1, {"E": 0, "T": 1}), (1, 2, {"A": 0, "N": 0})])
        self.assertEqual(part_rows(before, 2), [[2, 1, 2, 2, 0, 3, 0]])


class WhileItIsTalked(unittest.TestCase):
    def test_the_part_stays_the_same(self):
        before = opened(TWO)
        question = [states(0), states(1)] + [part(c, i) for c in (0, 1) for i in range(4)]
        expected = tail_rows(before, question)
        calls = say(0, 0, "E", 10, 31) + [down(1, 50), up(1, 60), AGAIN, BACK] + say(0, 100, "T", 10, 31) + [at(999)]
        for many in range(len(calls) + 1):
            self.assertEqual(tail_rows(before + calls[:many], question), expected)

    def test_begun_and_opened_again(self):
        before = opened(TWO) + opened([(1, 0, {"A": END})])
        self.assertEqual(part_rows(before, 0), [[2, 1, 1, 0, 1], [0, 0, 0]])
        refused = opened(TWO) + [begin(1), OPEN]
        self.assertEqual(part_rows(refused, 0), part_rows(opened(TWO), 0))


class ByChance(unittest.TestCase):
    def held(self, places, p, seed):
        """Holds all rows of a script against the oracle's, which are given back; none where it can't be kept."""
        calls, oracle = opened(places, p=p), Oracle()
        if oracle.ask(calls)[-1] != 0:
            return []
        question = [states(c) for c in range(p)]
        question += [part(c, i) for c in range(p) for i in range(len(oracle.s["parts"][c]) + 1)]
        self.assertEqual(tail_rows(calls, question), oracle.rows(question), seed)
        return [row for rows_of_one in oracle.s["parts"] for row in rows_of_one]

    def test_scripts_of_several(self):
        many = []
        for seed in range(1500):
            chance = Chance(seed)
            chance.few = ["E", "T", "A", "N"] if seed % 2 else chance.few
            p, n = chance.pick.randint(2, 5), chance.pick.randint(1, 9)
            many.append(len(self.held(chance.places(p, n), p, seed)))
        self.assertGreater(len([one for one in many if one > 0]), 100)
        self.assertGreater(max(many), 12)

    def test_scripts_in_which_one_tells_the_others(self):
        """These are kept more often, and the others don't know all, so that states of several places come."""
        kept, wide = 0, 0
        for seed in range(1200):
            chance = Chance(seed)
            n, places = chance.pick.randint(2, 10), []
            for _ in range(n):
                words = chance.pick.sample(["E", "T", "A", "N"], chance.pick.randint(1, 3))
                ways = {one: chance.pick.randrange(n) for one in words}
                places.append((0, chance.pick.choice((1, 2, 2)), ways))
            found = self.held(places, 3, seed)
            kept += bool(found)
            wide += any(kind == 2 and many > 3 for kind, _, many, *_ in found)
        self.assertGreater(kept, 300)
        self.assertGreater(wide, 30)


if __name__ == "__main__":
    unittest.main()
