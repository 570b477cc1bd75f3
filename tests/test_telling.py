"""Points 1 to 4: begin, word, place, way; and the row ahead of them."""

import itertools
import unittest

from tests.helper import BACK, AGAIN, END, OPEN, ask, at, begin, down, last, opened, place, say, tail, up, way, word

MANY = 4294967295
DOZENS = ["".join(pair) for pair in itertools.product("ABCDEFGHIJ", repeat=2)]


class Begin(unittest.TestCase):
    def test_edges_that_are_taken(self):
        for numbers in ((2, 1, 1, 0), (8, 1, 1, 0), (2, 1, 4096, 0), (2, 4096, 4096, 4095), (5, 7, 7, 6)):
            self.assertEqual(last([begin(*numbers)]), 0, numbers)

    def test_edges_that_are_refused(self):
        for numbers in ((1, 1, 1, 0), (0, 1, 1, 0), (9, 1, 1, 0), (MANY, 1, 1, 0),
                        (2, 0, 1, 0), (2, 4097, 4097, 0), (2, MANY, MANY, 0),
                        (2, 5, 4, 0), (2, 5, 4097, 0), (2, 1, 0, 0), (2, 5, MANY, 0),
                        (2, 5, 9, 5), (2, 5, 9, 6), (2, 1, 1, 1), (2, 5, 9, MANY)):
            self.assertEqual(last([begin(*numbers)]), -22, numbers)

    def test_again_drops_words_and_places(self):
        before = [begin(), word("E"), word("T"), place(0, 1), way(0, 1, END), begin(3)]
        self.assertEqual(tail(before, [way(0, 0, END), word("T"), place(2, 0), way(0, 1, END), way(0, 0, END)]),
                         [-2, 0, 0, -22, 1])

    def test_again_with_fewer_parties(self):
        self.assertEqual(ask([begin(3), place(2, 0), begin(2), place(2, 0)]), [0, 0, 0, -22])

    def test_again_while_open(self):
        before = opened([(0, 1, {"E": END})])
        calls = [begin(), down(0, 1), word("T"), OPEN, place(0, 1), way(0, 0, END), OPEN, down(0, 0)]
        self.assertEqual(tail(before, calls), [0, -6, 0, -61, 0, 1, 0, 0])

    def test_again_forgets_what_was_said_and_learnt_and_now(self):
        places = [(0, 1, {"E": 0, "T": 0})]
        learnt = opened(places, lo=1, hi=100) + [down(0, 7), up(0, 17), down(0, 27), AGAIN]
        self.assertEqual(tail(learnt, opened(places, lo=10, hi=10) + [BACK, down(0, 0)])[-3:], [0, -11, 0])

    def test_refused_all_stays(self):
        before = [begin(3, 10, 10), word("E"), place(2, 0), begin(1), begin(2, 0), begin(2, 5, 4), begin(2, 5, 5, 5)]
        self.assertEqual(tail(before, [word("E"), way(0, 0, END), place(2, 1), way(1, 0, 1)]), [0, 1, 1, 1])

    def test_refused_while_open_all_stays(self):
        before = opened([(0, 1, {"E": 0, "T": END})]) + say(0, 0, "E", 10, 31) + [down(0, 50), begin(9)]
        self.assertEqual(tail(before, [OPEN, up(0, 80), at(111), BACK, BACK, BACK]), [-16, 0, 1, 1, 0, -11])

    def test_refused_first_then_taken(self):
        self.assertEqual(ask([begin(1), begin(2, 0), begin(2)]), [-22, -22, 0])


class Word(unittest.TestCase):
    def test_numbers_from_0_in_order(self):
        self.assertEqual(ask([begin(), word("SOS"), word("A"), word("9")]), [0, 0, 1, 2])

    def test_told_already(self):
        calls = [begin(), word("SOS"), word("A"), word("SOS"), word("A"), word("B")]
        self.assertEqual(ask(calls), [0, 0, 1, 0, 1, 2])

    def test_letters_and_digits_are_told_apart(self):
        self.assertEqual(ask([begin(), word("O"), word("0"), word("I"), word("1"), word("AB"), word("BA")]),
                         [0, 0, 1, 2, 3, 4, 5])

    def test_all_letters_and_digits(self):
        signs = [[byte] for byte in list(range(65, 91)) + list(range(48, 58))]
        self.assertEqual(ask([begin()] + [word(sign) for sign in signs]), [0] + list(range(36)))

    def test_all_other_bytes(self):
        for byte in set(range(256)) - set(b"ABCDEFGHIJKLMNOPQRSTUVWXYZ0123456789"):
            for letters in ([byte], [65, byte], [byte, 65], [65, byte, 65]):
                self.assertEqual(last([begin(), word(letters)]), -22, letters)

    def test_how_many_letters(self):
        for many in range(16):
            self.assertEqual(last([begin(), word("A" * many)]), 0 if 1 <= many <= 12 else -22, many)

    def test_64_words(self):
        calls = [begin()] + [word(letters) for letters in DOZENS[:64]]
        self.assertEqual(ask(calls), [0] + list(range(64)))
        more = [word(DOZENS[64]), word("a"), word(DOZENS[63]), word(DOZENS[0]), word([]), word(DOZENS[65])]
        self.assertEqual(tail(calls, more), [-28, -22, 63, 0, -22, -28])

    def test_no_word_takes_no_number(self):
        self.assertEqual(ask([begin(), word("e"), word("E"), word(""), word("T")]), [0, -22, 0, -22, 1])


class PlaceCall(unittest.TestCase):
    def test_numbers_from_0_in_order(self):
        self.assertEqual(ask([begin(3), place(0, 1), place(1, 0), place(0, 1), place(2, 0)]), [0, 0, 1, 2, 3])

    def test_who_is_no_party(self):
        for p in range(2, 9):
            for pair in ((p, 0), (0, p), (p, p), (MANY, 0), (0, MANY), (p + 1, p)):
                self.assertEqual(last([begin(p), place(*pair)]), -22, (p, pair))
            self.assertEqual(ask([begin(p), place(p - 1, 0), place(0, p - 1)]), [0, 0, 1])

    def test_to_oneself(self):
        self.assertEqual(ask([begin(), place(0, 0), place(1, 1), place(1, 0)]), [0, -22, -22, 0])

    def test_32_places(self):
        calls = [begin()] + [place(0, 1)] * 32
        self.assertEqual(ask(calls), [0] + list(range(32)))
        self.assertEqual(tail(calls, [place(1, 0), place(0, 0), place(2, 0), place(0, 1)]), [-28, -22, -22, -28])

    def test_a_new_place_has_no_ways(self):
        calls = [begin(), word("E"), place(0, 1), way(0, 0, END), place(0, 1), OPEN, way(1, 0, END), OPEN]
        self.assertEqual(ask(calls)[-3:], [-61, 1, 0])


class WayCall(unittest.TestCase):
    told = [begin()] + [word(letters) for letters in "ETANI"] + [place(0, 1), place(1, 0)]

    def test_how_many_it_has(self):
        calls = [way(0, 3, END), way(0, 0, 0), way(1, 0, 1), way(0, 1, 1), way(1, 4, 0), way(0, 4, END)]
        self.assertEqual(tail(self.told, calls), [1, 2, 1, 3, 2, 4])

    def test_no_place(self):
        self.assertEqual(tail(self.told, [way(2, 0, END), way(MANY, 0, END), way(1, 0, END)]), [-2, -2, 1])

    def test_no_word(self):
        self.assertEqual(tail(self.told, [way(0, 5, END), way(0, MANY, END), way(0, 4, END)]), [-22, -22, 1])

    def test_where_it_goes_on(self):
        for behind in (0, 1, 2, 31, END):
            self.assertEqual(tail(self.told, [way(0, 0, behind)]), [1], behind)
        for behind in (32, 33, 254, 256, MANY):
            self.assertEqual(tail(self.told, [way(0, 0, behind)]), [-22], behind)

    def test_that_word_is_there(self):
        calls = [way(0, 0, END), way(0, 0, END), way(0, 0, 0), way(1, 0, END), way(0, 1, END)]
        self.assertEqual(tail(self.told, calls), [1, -17, -17, 1, 2])

    def test_four_ways(self):
        calls = [way(0, w, END) for w in range(5)] + [way(1, 4, END)]
        self.assertEqual(tail(self.told, calls), [1, 2, 3, 4, -28, 1])

    def test_the_first_refusal_is_answered(self):
        full = self.told + [way(0, w, END) for w in range(4)]
        calls = [way(2, 5, 32), way(0, 5, 32), way(0, 0, 32), way(0, 5, END), way(0, 0, END), way(0, 4, END)]
        self.assertEqual(tail(full, calls), [-2, -22, -22, -22, -17, -28])

    def test_refused_it_adds_no_way(self):
        calls = [way(0, 0, END), way(0, 1, 40), way(0, 9, 1), way(0, 0, 1), way(0, 1, END)]
        self.assertEqual(tail(self.told, calls), [1, -22, -22, -17, 2])


class WhileOpenAndBefore(unittest.TestCase):
    def test_telling_while_open_comes_first(self):
        calls = [word("T"), word("E"), word("e"), place(1, 0), place(0, 0), way(0, 0, END), way(9, 9, 99), OPEN]
        self.assertEqual(tail(opened([(0, 1, {"E": END})]), calls), [-16] * 8)

    def test_talking_before_it_is_open_comes_first(self):
        calls = [down(0, 0), down(9, MANY), up(0, 0), up(9, MANY), at(0), at(MANY), AGAIN, BACK]
        self.assertEqual(ask([begin()] + calls), [0] + [-6] * 8)

    def test_talking_behind_a_refused_opening(self):
        self.assertEqual(ask([begin(), OPEN, down(0, 0), at(1)]), [0, -61, -6, -6])


if __name__ == "__main__":
    unittest.main()
