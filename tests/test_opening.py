"""Point 5: open, and of each one's part (P) what it leans on."""

import unittest

from tests.helper import END, OPEN, Chance, Oracle, ask, begin, down, last, opened, place, tail, two_cycles, way, word

LETTERS = "ETANIMSURWDKGOHVFLPJBXCYZQ"


def verdict(places, **more):
    """What open answers; the oracle must say the same."""
    calls = opened(places, **more)
    answered = last(calls)
    assert answered == Oracle().ask(calls)[-1], (answered, places)
    return answered


def renumbered(places, names):
    """The same script with other numbers for the parties."""
    return [(names[speaker], names[hearer], ways) for speaker, hearer, ways in places]


def shifted(places, by):
    """The same places, to stand behind so many others."""
    return [(speaker, hearer, {letters: behind if behind == END else behind + by for letters, behind in ways.items()})
            for speaker, hearer, ways in places]


def hears_one_of(sizes, behind=END):
    """Party 1 chooses unheard by 2 which place comes; there 0 says to 2 one of so many words, all different."""
    head, letters, rest = [], iter(LETTERS), []
    forks = -(-len(sizes) // 3)
    for fork in range(forks):
        ways = {LETTERS[k]: forks + 3 * fork + k for k in range(len(sizes[3 * fork:3 * fork + 3]))}
        if fork + 1 < forks:
            ways["Q"] = fork + 1
        head.append((1, 0, ways))
    for size in sizes:
        rest.append((0, 2, {next(letters): behind for _ in range(size)}))
    return head + rest


class NotWhole(unittest.TestCase):
    def test_no_places(self):
        self.assertEqual(ask([begin(), OPEN, word("E"), OPEN]), [0, -61, 0, -61])

    def test_a_place_without_ways(self):
        calls = [begin(), word("E"), place(0, 1), OPEN, way(0, 0, END), place(1, 0), OPEN, way(1, 0, 0), OPEN]
        self.assertEqual(ask(calls), [0, 0, 0, -61, 1, 1, -61, 1, 0])

    def test_no_such_next_one(self):
        for behind in (1, 2, 31):
            self.assertEqual(last([begin(), word("E"), place(0, 1), way(0, 0, behind), OPEN]), -61)

    def test_the_next_one_is_told_later(self):
        calls = [begin(), word("E"), place(0, 1), way(0, 0, 1), OPEN, place(1, 0), OPEN, way(1, 0, END), OPEN]
        self.assertEqual(ask(calls), [0, 0, 0, 1, -61, 1, -61, 1, 0])

    def test_a_place_that_is_never_come_to_counts_too(self):
        calls = [begin(), word("E"), place(0, 1), place(0, 1), way(0, 0, END), OPEN, way(1, 0, 7), OPEN]
        self.assertEqual(ask(calls)[-3:], [-61, 1, -61])

    def test_one_way_of_several_leads_nowhere(self):
        self.assertEqual(last(opened([(0, 1, {"E": END, "T": 0, "A": 1, "N": END})])), -61)

    def test_ahead_of_parts(self):
        unclear = [(0, 1, {"E": 1, "T": END}), (1, 2, {"E": END})]
        self.assertEqual(verdict(unclear), -71)
        self.assertEqual(verdict(unclear + [(0, 1, {"E": 5})]), -61)

    def test_refused_it_can_be_told_on(self):
        calls = [begin(), OPEN, word("E"), OPEN, place(0, 1), OPEN, way(0, 0, END), OPEN, OPEN]
        self.assertEqual(ask(calls), [0, -61, 0, -61, 0, -61, 1, 0, -16])


class Kept(unittest.TestCase):
    def test_one_place(self):
        self.assertEqual(verdict([(0, 1, {"E": END})]), 0)
        self.assertEqual(verdict([(1, 0, {"E": 0})]), 0)
        self.assertEqual(verdict([(1, 0, {"E": 0, "T": END, "A": 0, "N": END})]), 0)

    def test_it_begins_at_place_0(self):
        self.assertEqual(tail(opened([(1, 0, {"E": 1}), (0, 1, {"E": END})]), [down(0, 0), down(1, 0)]), [-1, 0])

    def test_two_always_know(self):
        places = [(0, 1, {"E": 1, "T": 2}), (1, 0, {"A": 0, "N": END}), (0, 1, {"S": 2, "O": END})]
        self.assertEqual(verdict(places), 0)

    def test_parties_that_have_nothing_to_do(self):
        self.assertEqual(verdict([(3, 5, {"E": END, "T": 0})], p=8), 0)

    def test_32_places(self):
        places = [(k % 2, 1 - k % 2, {"E": k + 1, "T": END}) for k in range(31)] + [(1, 0, {"E": 0})]
        self.assertEqual(verdict(places), 0)

    def test_a_third_is_told_in_each_case(self):
        places = [(0, 1, {"E": 1, "T": 2}), (1, 2, {"E": END}), (1, 2, {"T": END})]
        self.assertEqual(verdict(places), 0)

    def test_what_the_third_hears_next_may_be_at_several_places(self):
        places = [(0, 1, {"E": 1, "T": 2}), (1, 2, {"E": 3}), (1, 2, {"E": 3, "T": 3}), (2, 0, {"A": END})]
        self.assertEqual(verdict(places), 0)

    def test_the_words_are_the_same_in_another_order(self):
        ways = [{"E": END, "T": END}, {"T": END, "E": END}]
        places = [(0, 1, {"E": 1, "T": 2}), (2, 1, ways[0]), (2, 1, ways[1])]
        self.assertEqual(verdict(places), 0)

    def test_places_that_are_never_come_to_don_t_count(self):
        self.assertEqual(verdict([(0, 1, {"E": END}), (0, 1, {"E": 2, "T": END}), (1, 2, {"E": END})]), 0)


class NotClear(unittest.TestCase):
    def test_over_or_not(self):
        self.assertEqual(verdict([(0, 1, {"E": 1, "T": END}), (1, 2, {"E": END})]), -71)

    def test_from_at_one_and_to_at_another(self):
        self.assertEqual(verdict([(0, 1, {"E": 1, "T": 2}), (1, 2, {"E": END}), (2, 1, {"E": END})]), -71)
        self.assertEqual(verdict([(0, 1, {"E": 2, "T": 1}), (1, 2, {"E": END}), (2, 1, {"E": END})]), -71)

    def test_speaks_to_one_or_another(self):
        self.assertEqual(verdict([(0, 1, {"E": 1, "T": 2}), (2, 0, {"E": END}), (2, 1, {"E": END})]), -71)

    def test_speaks_these_words_or_those(self):
        for other in ({"T": END}, {"E": END, "T": END}):
            places = [(0, 1, {"E": 1, "T": 2}), (2, 1, {"E": END}), (2, 1, other)]
            self.assertEqual(verdict(places), -71)
            self.assertEqual(verdict([places[0], places[2], places[1]]), -71)

    def test_listens_to_one_or_another(self):
        self.assertEqual(verdict([(0, 1, {"E": 1, "T": 2}), (0, 2, {"E": END}), (1, 2, {"E": END})]), -71)

    def test_only_behind_some_words(self):
        places = [(0, 2, {"E": 1, "T": 2}), (0, 1, {"E": 3}), (0, 1, {"E": 3, "T": 3}), (1, 2, {"A": END})]
        self.assertEqual(verdict(places), 0)
        places[2] = (0, 1, {"E": 3, "T": END})
        self.assertEqual(verdict(places), -71)

    def test_behind_a_word_from_all_places_that_have_it(self):
        fork = (0, 1, {"E": 1, "T": 2})
        same = [fork, (0, 2, {"A": 3}), (0, 2, {"A": 4}), (2, 0, {"E": END})]
        self.assertEqual(verdict(same + [(2, 0, {"E": END})]), 0)
        self.assertEqual(verdict(same + [(2, 1, {"E": END})]), -71)
        apart = [fork, (0, 2, {"A": 3}), (0, 2, {"N": 4}), (2, 0, {"E": END}), (2, 1, {"E": END})]
        self.assertEqual(verdict(apart), 0)

    def test_refused_it_is_not_open_and_can_be_mended(self):
        before = opened([(0, 1, {"E": 1, "T": END}), (1, 2, {"E": END})])
        self.assertEqual(tail(before, [down(0, 0), place(0, 1), begin(2), OPEN]), [-6, 2, 0, -61])


class RoundForEver(unittest.TestCase):
    def test_others_that_may_go_on_are_waited_for(self):
        self.assertEqual(verdict([(0, 1, {"E": 0, "T": 1}), (1, 2, {"E": END})]), 0)

    def test_others_that_can_t_come_back_are_over(self):
        self.assertEqual(verdict([(0, 1, {"E": 1, "T": 2}), (1, 2, {"E": END}), (0, 1, {"E": 2})]), -71)

    def test_over_is_carried_through_all_that_leads_there(self):
        places = [(0, 1, {"E": 1}), (1, 0, {"E": 2, "T": 4}), (0, 1, {"E": 3}), (1, 0, {"E": 2}), (0, 2, {"E": END})]
        self.assertEqual(verdict(places), -71)
        places[3] = (1, 0, {"E": 2, "T": 4})
        self.assertEqual(verdict(places), 0)

    def test_all_go_round_without_the_third(self):
        self.assertEqual(verdict([(0, 1, {"E": 1}), (1, 0, {"E": 0})], p=3), 0)

    def test_behind_what_the_third_said(self):
        self.assertEqual(verdict([(2, 0, {"E": 1}), (0, 1, {"E": 2}), (1, 0, {"E": 1})]), 0)
        places = [(2, 0, {"E": 1}), (0, 1, {"E": 2, "T": 0}), (1, 0, {"E": 2})]
        self.assertEqual(verdict(places), -71)

    def test_a_round_out_of_which_only_the_end_leads(self):
        self.assertEqual(verdict([(0, 1, {"E": 0, "T": END})], p=3), 0)
        self.assertEqual(verdict([(0, 1, {"E": 0, "T": END, "A": 1}), (0, 2, {"E": END})]), -71)

    def test_a_round_through_which_the_third_is_come_to_by_one_word_only(self):
        places = [(0, 1, {"E": 1}), (1, 0, {"E": 2}), (0, 1, {"E": 0, "T": 3}), (0, 2, {"E": 0})]
        self.assertEqual(verdict(places), 0)


class TooMany(unittest.TestCase):
    def test_64_states_and_65(self):
        self.assertEqual(verdict(two_cycles(1)), 0)
        self.assertEqual(verdict(two_cycles(2)), -75)
        self.assertEqual(verdict(two_cycles(0, 8, 8)), 0)
        self.assertEqual(verdict(two_cycles(0, 8, 9)), -75)

    def test_16_words_and_17(self):
        self.assertEqual(verdict(hears_one_of([4, 4, 4, 4])), 0)
        self.assertEqual(verdict(hears_one_of([4, 4, 4, 4, 1])), -75)
        self.assertEqual(verdict(hears_one_of([1, 4, 4, 4, 4])), -75)
        self.assertEqual(verdict(hears_one_of([4, 4, 4, 4, 4, 2])), -75)

    def test_words_that_are_the_same_count_once(self):
        places = hears_one_of([4, 4, 4, 4, 1])
        places[-1] = (0, 2, {"E": END, "T": END, "A": END})
        self.assertEqual(verdict(places), 0)

    def test_too_many_words_only_later(self):
        for last_one, answer in ((0, 0), (1, -75)):
            sizes = [4, 4, 4, 4] + [1] * last_one
            self.assertEqual(verdict([(0, 2, {"E": 1})] + shifted(hears_one_of(sizes), 1)), answer)

    def test_subsets_of_a_long_row(self):
        places = [(0, 2, {"E": 1, "T": 0}), (0, 1, {"E": 0, "T": 2})]
        places += [(0, 2, {"E": k + 1, "T": k + 1}) for k in range(2, 9)] + [(0, 2, {"E": 0, "T": 0})]
        self.assertEqual(verdict(places), -75)


class WhoIsToldFirst(unittest.TestCase):
    def test_the_first_party_in_order(self):
        """One part has too many states; of the fourth one it's not known whether it ever has something to do."""
        places = two_cycles(2)
        places[2] = (0, 1, {"E": 3, "T": len(places)})
        places.append((0, 3, {"E": 10}))
        self.assertEqual(verdict(places), -75)
        self.assertEqual(verdict(renumbered(places, [0, 1, 3, 2])), -71)
        self.assertEqual(verdict(renumbered(places, [3, 2, 0, 1])), -75)
        self.assertEqual(verdict(renumbered(places, [3, 2, 1, 0])), -71)

    def test_the_first_state_in_order(self):
        places = hears_one_of([4, 4, 4, 4, 1], behind=7) + [(1, 0, {"E": 8, "T": END}), (0, 2, {"E": END})]
        self.assertEqual(verdict(places), -75)
        places[6] = (0, 2, {"E": 7})
        self.assertEqual(verdict(places), -71)

    def test_not_clear_is_ahead_of_too_many_words(self):
        places = hears_one_of([4, 4, 4, 4, 1])
        places[-1] = (1, 2, places[-1][2])
        self.assertEqual(verdict(places), -71)

    def test_words_are_gone_through_rising_by_number(self):
        """Behind T there are too many words, behind E it isn't clear: the one whose number is less is told."""
        fork = shifted(hears_one_of([4, 4, 4, 4, 1]), 3)
        unclear = 3 + len(fork)
        places = [(0, 2, {"T": 1, "E": 2}), (0, 1, {"T": 3}), (0, 1, {"E": unclear})] + fork
        places += [(1, 0, {"E": unclear + 1, "T": END}), (0, 2, {"E": END})]
        self.assertEqual(verdict(places, words=["T", "E"]), -75)
        self.assertEqual(verdict(places, words=["E", "T"]), -71)


class ByChance(unittest.TestCase):
    def test_scripts_of_several(self):
        seen = set()
        for seed in range(1500):
            chance = Chance(seed)
            p, n = chance.pick.randint(2, 5), chance.pick.randint(1, 9)
            seen.add(verdict(chance.places(p, n), p=p))
        self.assertEqual(seen, {0, -71})


if __name__ == "__main__":
    unittest.main()
