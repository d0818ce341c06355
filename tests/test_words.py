"""Words weighed, as fl_piece reaches them."""

import unittest

from tests.calls import ask, opened, piece, start, word


class Weighing:
    def weighs(self, weight, words, text):
        """The text passes with a limit of its weight, and with none that's lower."""
        self.assertEqual(ask(start(weight, *words), opened(), piece(0, text)), [0, 0, 0])
        if weight > 0:
            self.assertEqual(ask(start(weight - 1, *words), opened(), piece(0, text)), [0, 0, 1])


class Weighed(Weighing, unittest.TestCase):
    def test_within_one_another(self):
        self.weighs(3, [word("AAA")], "AAAAA")
        self.weighs(2, [word("ABAB")], "ABABAB")

    def test_at_the_text_s_beginning_and_end(self):
        self.weighs(1, [word("ABC")], "ABCxxx")
        self.weighs(1, [word("ABC")], "xxxABC")
        self.weighs(1, [word("ABC")], "ABC")

    def test_longer_than_the_text(self):
        self.weighs(0, [word("ABCD")], "ABC")
        self.weighs(0, [word("A" * 16)], "A" * 15)
        self.weighs(1, [word("A" * 16)], "A" * 16)

    def test_one_byte(self):
        self.weighs(3, [word("A")], "ABABA")

    def test_only_the_first_n_bytes_are_the_word(self):
        self.weighs(2, [word("ABCDEF", n=2)], "ABxAB")
        self.weighs(2, [word("AB", filler=255)], "ABxAB")
        self.weighs(1, [word("A", fold=1, filler=65)], "xax")
        self.weighs(1, [word("ABCDEFGHIJKLMNOP", n=15)], "ABCDEFGHIJKLMNOX")

    def test_255_times_and_once_more(self):
        for times in (254, 255):
            self.weighs(times, [word("A")], "A" * times)
            self.weighs(times * 127, [word("A", weight=127)], "A" * times)
        for times in (256, 257, 512, 1500):
            self.weighs(255, [word("A")], "A" * times)
            self.weighs(255 * 127, [word("A", weight=127)], "A" * times)

    def test_255_times_over_pieces(self):
        full = (piece(0, "A" * 254), piece(254, "A"), piece(255, "A"), piece(300, "A" * 1500))
        self.assertEqual(ask(start(255, word("A")), opened(), *full), [0] * 6)
        self.assertEqual(ask(start(254, word("A")), opened(), *full), [0, 0, 0, 1, 1, 1])

    def test_255_times_of_each_word(self):
        self.weighs(510, [word("A"), word("B")], "A" * 300 + "B" * 300)
        self.weighs(255 * 2 + 20, [word("A", weight=2), word("B")], "A" * 300 + "B" * 20)
        calls = (start(256, word("A"), word("B")), opened(), piece(0, "A" * 400), piece(400, "B"), piece(401, "AAA"),
                 piece(404, "B"), piece(404, "AA"))
        self.assertEqual(ask(*calls), [0, 0, 0, 0, 0, 1, 0])

    def test_a_word_without_weight(self):
        self.weighs(0, [word("A", weight=0)], "A" * 400)
        self.weighs(1, [word("A", weight=0), word("B")], "AAABAAA")

    def test_64_words_alike(self):
        self.weighs(64, [word("AB")] * 64, "xABx")
        self.weighs(64 * 127 * 255, [word("A", weight=127)] * 64, "A" * 300)

    def test_the_64th_word_counts(self):
        self.weighs(9, [word("A")] * 63 + [word("B", weight=9)], "xBx")


class Fold(Weighing, unittest.TestCase):
    def test_both_cases(self):
        for text in ("cat", "CAT", "Cat", "cAt", "caT"):
            for spelling in ("cat", "CAT", "cAt"):
                self.weighs(1, [word(spelling, fold=1)], text)
                self.weighs(1 if spelling == text else 0, [word(spelling)], text)

    def test_every_letter(self):
        letters = "abcdefghijklmnopqrstuvwxyz"
        for letter in letters:
            self.weighs(2, [word(letter, fold=1)], letters + letters.upper())
            self.weighs(2, [word(letter.upper(), fold=1)], letters + letters.upper())
            self.weighs(1, [word(letter)], letters + letters.upper())
            self.weighs(1, [word(letter.upper())], letters + letters.upper())

    def test_no_other_byte_has_a_case(self):
        letters = list(range(65, 91)) + list(range(97, 123))
        for byte in range(256):
            if byte in letters:
                continue
            self.weighs(1, [word([byte], fold=1)], list(range(256)))
            self.weighs(0, [word([byte], fold=1)], [(byte + 32) % 256, (byte - 32) % 256, byte ^ 32])

    def test_beside_the_letters(self):
        for one, other in (("@", "`"), ("[", "{")):
            self.weighs(1, [word(one, fold=1)], one)
            self.weighs(0, [word(one, fold=1)], other)
            self.weighs(1, [word(other, fold=1)], other)
            self.weighs(0, [word(other, fold=1)], one)
        self.weighs(1, [word("@A[", fold=1)], "@a[")
        self.weighs(0, [word("@A[", fold=1)], "`a{")

    def test_bytes_above_127(self):
        self.weighs(1, [word([255, 128])], [255, 128, 255])
        self.weighs(1, [word([0xC1, 0xE1], fold=1)], [0xC1, 0xE1])
        self.weighs(0, [word([0xC1], fold=1)], [0xE1])
        self.weighs(0, [word([0xE1], fold=1)], [0xC1])
        self.weighs(0, [word([0xC1])], [0x41])

    def test_some_fold_and_some_do_not(self):
        self.weighs(13, [word("ab", weight=1, fold=1), word("AB", weight=10)], "abABxab")

    def test_a_known_letter_in_the_other_case_is_told_otherwise(self):
        calls = (start(5, word("A", fold=1)), opened(), piece(0, "A"), piece(0, "a"), piece(0, "A"))
        self.assertEqual(ask(*calls), [0, 0, 0, -17, 0])

    def test_fold_over_a_cut(self):
        calls = (start(0, word("aBc", fold=1)), opened(), piece(0, "A"), piece(2, "C"), piece(1, "b"), piece(1, "x"))
        self.assertEqual(ask(*calls), [0, 0, 0, 0, 1, 0])


if __name__ == "__main__":
    unittest.main()
