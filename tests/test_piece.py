"""Promise 3: fl_piece."""

import unittest

from tests.calls import ask, opened, piece, start, word

ROUND = 4294967296


class Refusals(unittest.TestCase):
    def check(self, told, *calls, rules=start(2, word("A"))):
        self.assertEqual(ask(rules, *calls), [0] + told)

    def test_how_many_bytes(self):
        for size, answer in ((0, -22), (1, 0), (2, 0), (1499, 0), (1500, 0), (1501, -22), (1600, -22)):
            with self.subTest(size=size):
                self.check([0, answer], opened(), piece(0, "B" * size))

    def test_no_such_stream(self):
        self.check([-2], piece(0, "A"))
        self.check([0, -2, 0], opened(name=1), piece(0, "A", name=2), piece(0, "A", name=1))

    def test_last_byte_ahead(self):
        for first in (0, 1000, ROUND - 1, ROUND - 4096, ROUND // 2):
            for size in (1, 2, 1500):
                fits = (first + 4096 - size) % ROUND
                with self.subTest(first=first, size=size):
                    self.check([0, 0], opened(first), piece(fits, "B" * size))
                    self.check([0, -34], opened(first), piece((fits + 1) % ROUND, "B" * size))

    def test_far_ahead_and_old(self):
        for first in (0, 1, 77, ROUND // 2, ROUND - 1):
            with self.subTest(first=first):
                self.check([0, -34, -34, -34], opened(first), piece((first + 2 ** 31 - 1) % ROUND, "A"),
                           piece((first + 2 ** 31 - 1) % ROUND, "AA"), piece((first + 2 ** 31 - 2) % ROUND, "AAA"))
                self.check([0, 0, 0], opened(first), piece((first + 2 ** 31) % ROUND, "AAA"),
                           piece((first + 2 ** 31) % ROUND, "A" * 1500))

    def test_a_known_byte_told_otherwise(self):
        known = piece(10, "BCDE")
        self.check([0, 0, 0], opened(), known, known)
        for other in (piece(10, "XCDE"), piece(10, "BCDX"), piece(9, "AX"), piece(13, "XF"), piece(12, "XEF"),
                      piece(10, "X"), piece(13, "X"), piece(5, "FGHIJBCDX"), piece(13, "e")):
            self.check([0, 0, -17], opened(), known, other)
        self.check([0, 0, 0, 0], opened(), known, piece(8, "YYBC"), piece(12, "DEYY"))

    def test_told_otherwise_leaves_nothing_behind(self):
        self.check([0, 0, -17, 0, -17, 0], opened(), piece(5, "B"), piece(3, "AAC"), piece(3, "CC"),
                   piece(5, "CA"), piece(6, "AA"))

    def test_too_far_leaves_nothing_behind(self):
        self.check([0, -34, 0], opened(), piece(4094, "AAA"), piece(4093, "ABA"))

    def test_too_long_leaves_nothing_behind(self):
        self.check([0, -22, 0, 0], opened(), piece(0, "B" * 1501), piece(0, "C"), piece(1, "AA"))

    def test_byte_0_is_known_too(self):
        self.check([0, 0, -17, 0], opened(), piece(0, [0]), piece(0, [1]), piece(0, [0, 255]))

    def test_length_is_named_ahead_of_all(self):
        self.check([-22, -22], piece(0, ""), piece(0, "A" * 1501))
        self.check([0, -22, -22], opened(), piece(4096, ""), piece(4096, "A" * 1501))
        self.check([0, 0, -22], opened(), piece(0, "B"), piece(0, "C" * 1501))
        self.check([0, -22], opened(), piece(0, "A" * 1501))
        self.check([0, -22, -22], opened(5), piece(4, ""), piece(ROUND - 5000, "A" * 1501))

    def test_no_such_stream_is_named_ahead_of_the_rest(self):
        self.check([0, 0, -2, -2, -2], opened(name=1), piece(0, "B", name=1), piece(9999, "A"), piece(0, "C"),
                   piece(0, "AAA"))

    def test_too_far_is_named_ahead_of_told_otherwise(self):
        self.check([0, 0, -34, -17], opened(), piece(4095, "B"), piece(4095, "CC"), piece(4095, "C"))

    def test_too_far_is_named_ahead_of_kept_back(self):
        self.check([0, -34, 1], opened(), piece(4093, "AAAB"), piece(4093, "AAA"))

    def test_told_otherwise_is_named_ahead_of_kept_back(self):
        self.check([0, 0, -17, 1], opened(), piece(3, "B"), piece(0, "AAAC"), piece(0, "AAAB"))


class Old(unittest.TestCase):
    RULES = start(1, word("AB"))

    def test_old_all_through(self):
        calls = (self.RULES, opened(100), piece(0, "AB" * 50), piece(99, "A"), piece(100, "B"), piece(98, "AB"))
        self.assertEqual(ask(*calls), [0] * 6)

    def test_old_all_through_and_long(self):
        self.assertEqual(ask(start(0, word("A")), opened(2000), piece(500, "A" * 1500), piece(501, "A" * 1500)),
                         [0, 0, 0, 1])

    def test_old_in_part(self):
        calls = (start(0, word("AB")), opened(100), piece(98, "ABC"), piece(99, "AB"), piece(100, "B"),
                 piece(100, "C"), piece(99, "ZBAB"), piece(99, "ZBAC"))
        self.assertEqual(ask(*calls), [0, 0, 0, -17, -17, 0, -17, -17])

    def test_no_word_begins_in_old_bytes(self):
        self.assertEqual(ask(start(0, word("AB")), opened(100), piece(99, "AB"), piece(99, "CBAB"), piece(99, "CBAC")),
                         [0, 0, 0, 1, 0])

    def test_old_bytes_may_be_told_otherwise(self):
        calls = (self.RULES, opened(100), piece(98, "XYZ"), piece(98, "PQZ"), piece(98, "PQR"))
        self.assertEqual(ask(*calls), [0, 0, 0, 0, -17])

    def test_old_over_the_round(self):
        calls = (self.RULES, opened(1), piece(ROUND - 1, "PQAB"), piece(1, "AB"), piece(0, "RA"), piece(0, "RB"),
                 piece(3, "AB"))
        self.assertEqual(ask(*calls), [0, 0, 0, 0, 0, -17, 1])


class Found(unittest.TestCase):
    def check(self, limit, words, told, *pieces):
        self.assertEqual(ask(start(limit, *words), opened(), *pieces), [0, 0] + told)

    def test_at_the_limit_and_above(self):
        for weight in (1, 5, 127):
            words = [word("AB", weight=weight)]
            self.check(weight, words, [0], piece(0, "AB"))
            self.check(weight - 1, words, [1], piece(0, "AB"))
            self.check(2 * weight, words, [0, 0, 1], piece(0, "AB"), piece(2, "AB"), piece(4, "AB"))
            self.check(2 * weight - 1, words, [0, 1], piece(0, "AB"), piece(2, "AB"))
            self.check(2 * weight - 1, words, [1, 0], piece(0, "ABAB"), piece(0, "ABA"))

    def test_limit_0(self):
        self.check(0, [word("A")], [1, 0], piece(0, "A"), piece(0, "B"))

    def test_highest_limit(self):
        self.check(4294967295, [word("A", weight=127)] * 64, [0, 0, 0],
                   piece(0, "A" * 1500), piece(1500, "A" * 1500), piece(3000, "A" * 1096))

    def test_weights_of_different_words_add_up(self):
        words = [word("A", weight=3), word("AB", weight=10), word("C", weight=100)]
        self.check(13, words, [0, 1], piece(0, "AB"), piece(2, "C"))
        self.check(12, words, [0, 1, 0], piece(0, "A"), piece(1, "B"), piece(1, "D"))
        self.check(113, words, [0, 1], piece(0, "CAB"), piece(7, "A"))
        self.check(112, words, [1], piece(0, "CAB"))

    def test_a_word_cut_into_single_bytes(self):
        text = "ABCDEFGHIJKLMNOP"
        for order in (range(16), range(15, -1, -1), [5, 0, 15, 1, 14, 2, 13, 3, 12, 4, 11, 6, 10, 7, 9, 8]):
            pieces = [piece(at, text[at]) for at in order]
            self.check(0, [word(text)], [0] * 15 + [1], *pieces)
            self.check(1, [word(text)], [0] * 16, *pieces)

    def test_a_gap_filled_last(self):
        words = [word("ABCDE")]
        self.check(0, words, [0, 0, 1, 0], piece(0, "AB"), piece(3, "DE"), piece(2, "C"), piece(2, "X"))
        self.check(0, words, [0, 0, 1], piece(0, "AB"), piece(3, "DE"), piece(1, "BCD"))

    def test_a_gap_that_completes_several(self):
        self.check(1, [word("ABA")], [0, 0, 1], piece(0, "AB"), piece(3, "BA"), piece(2, "A"))
        self.check(2, [word("ABA")], [0, 0, 0], piece(0, "AB"), piece(3, "BA"), piece(2, "A"))

    def test_a_gap_between_halves_of_16_bytes(self):
        text = "ABCDEFGHIJKLMNOP"
        for at in range(16):
            pieces = (piece(0, "X" * 30 + text[:at]), piece(31 + at, text[at + 1:] + "X"), piece(30 + at, text[at]),
                      piece(30 + at, "X"))
            self.check(0, [word(text)], [0, 0, 1, 0], *pieces)

    def test_a_word_does_not_stand_over_a_gap(self):
        self.check(0, [word("AB")], [0, 0], piece(0, "A"), piece(2, "B"))

    def test_a_piece_told_twice(self):
        self.check(1, [word("AB")], [0, 0, 0, 1], piece(0, "AB"), piece(0, "AB"), piece(0, "ABC"), piece(3, "AB"))
        self.check(1, [word("AB")], [0, 0, 0, 0, 1], piece(0, "AB"), piece(0, "A"), piece(1, "B"), piece(1, "BA"),
                   piece(3, "B"))

    def test_pieces_over_one_another(self):
        self.check(2, [word("ABC")], [0, 0, 0, 0, 1], piece(0, "ABCA"), piece(2, "CABC"), piece(1, "BCAB"),
                   piece(0, "ABCABCAB"), piece(5, "CABC"))

    def test_kept_back_leaves_nothing_behind(self):
        self.check(1, [word("AB")], [1, 0, 0, 1, 0], piece(0, "ABAB"), piece(0, "XXXX"), piece(4, "AB"),
                   piece(6, "AB"), piece(6, "XX"))
        self.check(1, [word("AB")], [1, 1, 1, 0], piece(0, "ABAB"), piece(0, "ABAB"), piece(0, "ABAB"),
                   piece(0, "ABA"))

    def test_kept_back_and_told_again_after_more(self):
        self.check(0, [word("AB")], [0, 1, 0, 0], piece(0, "A"), piece(1, "B"), piece(1, "C"), piece(2, "B"))

    def test_each_stream_by_itself(self):
        calls = (start(1, word("AB")), opened(), opened(name=1), piece(0, "AB"), piece(0, "AB", name=1),
                 piece(2, "AB"), piece(2, "AC", name=1), piece(3, "B"), piece(2, "AB", name=1))
        self.assertEqual(ask(*calls), [0, 0, 0, 0, 0, 1, 0, 0, -17])
        calls = (start(0, word("AB")), opened(), opened(name=1), piece(0, "A"), piece(1, "B", name=1))
        self.assertEqual(ask(*calls), [0] * 5)

    def test_at_the_ends_of_the_window(self):
        self.check(0, [word("AB")], [1, 1, 0, 0], piece(0, "AB"), piece(4094, "AB"), piece(4095, "A"),
                   piece(0, "B"))
        self.check(0, [word("A" * 16)], [0, 1], piece(4081, "A" * 15), piece(4080, "A"))

    def test_no_word_goes_from_the_window_s_end_to_its_beginning(self):
        self.check(0, [word("AB")], [0, 0], piece(4095, "A"), piece(0, "B"))
        self.check(0, [word("AB")], [0, 0], piece(0, "B"), piece(4095, "A"))

    def test_places_that_go_round(self):
        for first in (ROUND - 1, ROUND - 2, ROUND - 3):
            calls = (start(1, word("ABCD")), opened(first), piece(first, "ABCD"),
                     piece((first + 4) % ROUND, "ABC"), piece((first + 7) % ROUND, "D"), piece(first, "ABCDABCX"))
            self.assertEqual(ask(*calls), [0, 0, 0, 0, 1, 0])
        calls = (start(0, word("ABCD")), opened(ROUND - 100), piece(1, "CD"), piece(ROUND - 1, "AB"), piece(0, "B"),
                 piece(0, "X"), piece(ROUND - 1, "A"))
        self.assertEqual(ask(*calls), [0, 0, 0, 1, 0, -17, 1])


if __name__ == "__main__":
    unittest.main()
