"""Promise 1: fl_start."""

import unittest

from tests.calls import ask, opened, piece, start, word


class RulesAsTold(unittest.TestCase):
    def check(self, answer, *words):
        self.assertEqual(ask(start(5, *words)), [answer])

    def test_how_many_words(self):
        self.check(-22)
        self.check(0, word("A"))
        self.check(0, *[word("A")] * 63)
        self.check(0, *[word("A")] * 64)
        self.check(-22, *[word("A")] * 65)
        self.check(-22, *[word("A")] * 66)
        self.check(-22, *[word("A")] * 67)

    def test_length(self):
        for n, answer in ((0, -22), (1, 0), (2, 0), (15, 0), (16, 0), (17, -22), (255, -22)):
            with self.subTest(n=n):
                self.check(answer, word("ABCDEFGHIJKLMNOP", n=n))

    def test_fold(self):
        for fold, answer in ((0, 0), (1, 0), (2, -22), (255, -22)):
            with self.subTest(fold=fold):
                self.check(answer, word("A", fold=fold))

    def test_weight(self):
        for weight, answer in ((0, 0), (1, 0), (126, 0), (127, 0), (128, -22), (255, -22)):
            with self.subTest(weight=weight):
                self.check(answer, word("A", weight=weight))

    def test_none(self):
        for none, answer in ((0, 0), (1, -22), (255, -22)):
            with self.subTest(none=none):
                self.check(answer, word("A", none=none))

    def test_every_word_is_looked_at(self):
        good = word("A")
        for bad in (word("A", n=0), word("A", n=17), word("A", fold=2), word("A", weight=128), word("A", none=1)):
            self.check(-22, bad, good, good)
            self.check(-22, good, bad, good)
            self.check(-22, good, good, bad)
            self.check(-22, *[good] * 63 + [bad])

    def test_two_may_be_alike(self):
        self.check(0, word("AB"), word("AB"))

    def test_any_byte_may_stand_in_a_word(self):
        self.check(0, word([0, 255, 128], filler=255))

    def test_any_limit(self):
        for limit in (0, 1, 4294967295):
            self.assertEqual(ask(start(limit, word("A"))), [0])
            self.assertEqual(ask(start(limit, word("A", none=1))), [-22])

    def test_rules_that_break_off_within_a_word(self):
        for size in (1, 19, 21, 39):
            rules = (word("A") * 2)[:size]
            self.assertEqual(ask([0, 5, size] + rules), [-22])


class StartAgain(unittest.TestCase):
    def test_refused_first_and_then_not(self):
        calls = (start(5), start(1, word("A")), opened(), piece(0, "A"), piece(1, "A"))
        self.assertEqual(ask(*calls), [-22, 0, 0, 0, 1])

    def test_no_streams_are_left(self):
        rules = start(1, word("A"))
        calls = (rules, opened(), piece(0, "B"), rules, piece(0, "B"), opened(), piece(0, "C"))
        self.assertEqual(ask(*calls), [0, 0, 0, 0, -2, 0, 0])

    def test_there_is_room_for_64_again(self):
        rules = start(1, word("A"))
        opens = [opened(name=k) for k in range(64)]
        self.assertEqual(ask(rules, *opens, rules, *opens), [0] * 130)

    def test_nothing_found_is_left(self):
        rules = start(1, word("A"))
        self.assertEqual(ask(rules, opened(), piece(0, "A"), rules, opened(), piece(1, "A"), piece(2, "A")),
                         [0, 0, 0, 0, 0, 0, 1])

    def test_new_rules(self):
        calls = (start(0, word("A")), opened(), piece(0, "A"), piece(0, "B"),
                 start(0, word("B")), opened(), piece(0, "B"), piece(0, "A"))
        self.assertEqual(ask(*calls), [0, 0, 1, 0, 0, 0, 1, 0])

    def test_more_rules_and_fewer(self):
        few = (word("A"),)
        many = (word("A"), word("B"), word("C"))
        for first, second in ((few, many), (many, few)):
            calls = (start(0, *first), opened(), start(0, *second), opened(),
                     piece(0, "A"), piece(0, "B"), piece(1, "C"))
            blocked = 1 if second is many else 0
            self.assertEqual(ask(*calls), [0, 0, 0, 0, 1, blocked, blocked])

    def test_new_limit(self):
        calls = (start(0, word("A")), opened(), piece(0, "A"),
                 start(1, word("A")), opened(), piece(0, "A"), piece(1, "A"),
                 start(0, word("A")), opened(), piece(0, "A"))
        self.assertEqual(ask(*calls), [0, 0, 1, 0, 0, 0, 1, 0, 0, 1])

    def test_refused_changes_nothing(self):
        begun = (start(2, word("A")), opened(), piece(0, "AX"))
        after = (opened(), piece(0, "B"), piece(1, "X"), piece(2, "BBA"), piece(5, "A"), opened(name=1))
        told = [-17, -17, 0, 0, 1, 0]
        refused = (start(9), start(9, word("B", none=1)), start(0, word("B"), word("A", n=17)),
                   start(9, *[word("B")] * 65))
        self.assertEqual(ask(*begun, *after), [0, 0, 0] + told)
        for call in refused:
            self.assertEqual(ask(*begun, call, *after), [0, 0, 0, -22] + told)
        self.assertEqual(ask(*begun, *refused, *after), [0, 0, 0] + [-22] * 4 + told)


if __name__ == "__main__":
    unittest.main()
