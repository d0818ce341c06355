"""Promise 2: fl_open."""

import unittest

from tests.calls import ask, opened, piece, start, word

RULES = start(1, word("A"))


class Open(unittest.TestCase):
    def test_a_name_twice(self):
        self.assertEqual(ask(RULES, opened(), opened(), opened(5)), [0, 0, -17, -17])

    def test_a_name_twice_changes_nothing(self):
        calls = (RULES, opened(10), piece(10, "A"), opened(20), piece(10, "B"), piece(11, "A"), piece(11, "B"))
        self.assertEqual(ask(*calls), [0, 0, 0, -17, -17, 1, 0])

    def test_64_names_and_one_more(self):
        opens = [opened(name=k) for k in range(64)]
        self.assertEqual(ask(RULES, *opens, opened(name=64)), [0] * 65 + [-28])
        self.assertEqual(ask(RULES, *opens, opened(name=64), piece(0, "B", name=64)), [0] * 65 + [-28, -2])

    def test_a_65th_that_is_one_of_the_64(self):
        opens = [opened(name=k) for k in range(64)]
        again = [opened(name=k) for k in (0, 31, 63)]
        self.assertEqual(ask(RULES, *opens, *again, opened(name=64)), [0] * 65 + [-17] * 3 + [-28])

    def test_all_64_can_be_used(self):
        opens = [opened(k, name=k) for k in range(64)]
        pieces = [piece(k, "A", name=k) for k in range(64)]
        more = [piece(k + 1, "A", name=k) for k in range(64)]
        self.assertEqual(ask(RULES, *opens, *pieces, *more), [0] * 129 + [1] * 64)

    def test_names_that_differ_in_one_byte(self):
        for at in range(16):
            other = [7] * 15 + [0]
            other[at] = 200
            calls = (RULES, opened(), [1, 0, 16] + other, [1, 0, 16] + other)
            self.assertEqual(ask(*calls), [0, 0, 0, -17])

    def test_first_at_0(self):
        calls = (RULES, opened(0), piece(4294967295, "A"), piece(0, "A"), piece(4095, "B"), piece(4096, "B"))
        self.assertEqual(ask(*calls), [0, 0, 0, 0, 0, -34])

    def test_first_at_the_last_place(self):
        calls = (RULES, opened(4294967295), piece(4294967294, "A"), piece(4294967295, "BC"), piece(0, "D"),
                 piece(4294967295, "A"), piece(4094, "B"), piece(4095, "B"))
        self.assertEqual(ask(*calls), [0, 0, 0, 0, -17, -17, 0, -34])

    def test_nothing_is_known_or_found(self):
        for first in (0, 1, 4096, 2147483648, 4294967295):
            calls = (RULES, opened(first), piece(first, "A"), opened(first, name=1), piece(first, "B", name=1),
                     piece((first + 1) % 4294967296, "A", name=1))
            self.assertEqual(ask(*calls), [0] * 6)

    def test_refused_leaves_the_64_as_they_are(self):
        opens = [opened(name=k) for k in range(64)]
        calls = (piece(0, "A", name=5), opened(name=64), piece(0, "B", name=5), piece(1, "A", name=5))
        self.assertEqual(ask(RULES, *opens, *calls), [0] * 65 + [0, -28, -17, 1])


if __name__ == "__main__":
    unittest.main()
