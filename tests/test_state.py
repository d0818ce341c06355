"""Promise 6: fl_state."""

import unittest

from tests.calls import ack, ask, closed, name_of, opened, piece, start, state, word
from watchedline.watcher import answers

ROUND = 4294967296
RULES = start(100, word("A", weight=3), word("BC", weight=10))


class State(unittest.TestCase):
    def check(self, told, *calls):
        self.assertEqual(ask(RULES, *calls), [0] + told)

    def test_no_such_stream(self):
        self.check([-2, 0, -2, (0, 0, 0, 0)], state(), opened(name=1), state(name=2), state(name=1))
        self.check([0, 0, -2], opened(), closed(), state())
        self.check([0, 0, -2], opened(), RULES, state())

    def test_how_it_is_answered(self):
        self.assertEqual(answers(RULES + opened(9) + state()), [2, 0, 0, 2, 0, 0, 6, 1, 4, 9, 0, 0, 0])
        self.assertEqual(answers(RULES + state()), [2, 0, 0, 2, 0, -2])

    def test_a_new_stream(self):
        for first in (0, 1, 4096, ROUND // 2, ROUND - 1):
            self.check([0, (first, 0, 0, 0)], opened(first), state())

    def test_with_a_gap(self):
        self.check([0, 0, (0, 0, 0, 1)], opened(), piece(1, "X"), state())
        self.check([0, 0, (0, 3, 0, 1)], opened(), piece(4095, "A"), state())
        self.check([0, 0, 0, (0, 13, 2, 5)], opened(), piece(0, "XA"), piece(3, "BCX"), state())
        self.check([0, 0, 0, 0, (0, 0, 2, 4)], opened(), piece(0, "XB"), piece(3, "CX"), piece(0, "X"), state())

    def test_without_a_gap(self):
        self.check([0, 0, (0, 0, 1, 1)], opened(), piece(0, "X"), state())
        self.check([0, 0, 0, (0, 13, 5, 5)], opened(), piece(0, "XA"), piece(2, "BCX"), state())
        self.check([0, 0, 0, 0, (0, 0, 4096, 4096)], opened(), piece(2596, "X" * 1500), piece(0, "X" * 1500),
                   piece(1400, "X" * 1300), state())

    def test_a_gap_that_is_filled(self):
        self.check([0, 0, 0, (0, 0, 1, 2), 0, (0, 10, 3, 3)], opened(), piece(0, "X"), piece(2, "C"), state(),
                   piece(1, "B"), state())

    def test_byte_0_is_known_too(self):
        self.check([0, 0, 0, (0, 0, 3, 4)], opened(), piece(0, [0, 0, 0]), piece(9, [0]), state())

    def test_after_an_acknowledgement(self):
        self.check([0, 0, 0, 0, (2, 13, 1, 2), 0, (3, 13, 0, 1)], opened(), piece(0, "ABC"), piece(5, "X"), ack(2),
                   state(), ack(3), state())
        self.check([0, 0, 0, (ROUND - 1, 10, 2, 2), 0, (0, 10, 1, 1), 0, (1, 10, 0, 0)], opened(ROUND - 2),
                   piece(ROUND - 2, "XBC"), ack(ROUND - 1), state(), ack(0), state(), ack(1), state())

    def test_a_piece_told_twice(self):
        self.check([0, 0, 0, (0, 13, 3, 3)], opened(), piece(0, "ABC"), piece(0, "ABC"), state())

    def test_old_bytes_are_not_known(self):
        self.check([0, 0, (5, 0, 0, 0), 0, (5, 3, 1, 1)], opened(5), piece(0, "AAAAA"), state(), piece(4, "AA"),
                   state())

    def test_after_what_is_refused_or_kept_back(self):
        calls = (opened(), piece(0, "AX"), piece(0, "BA"), piece(2, "BC" * 10), piece(4095, "AA"), piece(2, ""),
                 piece(2, "A" * 1501), ack(3), opened(7), start(1), state())
        self.check([0, 0, -17, 1, -34, -22, -22, -34, -17, -22, (0, 3, 2, 2)], *calls)

    def test_it_changes_nothing(self):
        self.check([0, 0] + [(0, 13, 3, 3)] * 3 + [0, (0, 23, 5, 5)], opened(), piece(0, "ABC"), state(), state(),
                   state(), piece(3, "BC"), state())

    def test_255_times_and_once_more(self):
        for weight in (0, 1, 127):
            rules = start(4294967295, word("A", weight=weight), word("B"))
            for times in (254, 255, 256, 257, 600):
                weighs = weight * min(times, 255)
                calls = (rules, opened(), piece(0, "A" * times), state(), piece(times, "B"), state())
                self.assertEqual(ask(*calls), [0, 0, 0, (0, weighs, times, times), 0,
                                               (0, weighs + 1, times + 1, times + 1)])

    def test_255_times_one_by_one(self):
        calls = (start(4294967295, word("A", weight=2)), opened(), piece(0, "A" * 254), state(), piece(254, "A"),
                 state(), piece(255, "A"), state(), ack(256), state(), piece(256, "A"), state())
        self.assertEqual(ask(*calls), [0, 0, 0, (0, 508, 254, 254), 0, (0, 510, 255, 255), 0, (0, 510, 256, 256), 0,
                                       (256, 510, 0, 0), 0, (256, 510, 1, 1)])

    def test_the_heaviest(self):
        rules = start(4294967295, *[word("A", weight=127)] * 64)
        self.assertEqual(ask(rules, opened(), piece(0, "A" * 300), state())[3], (0, 64 * 127 * 255, 300, 300))

    def test_each_stream_by_itself(self):
        self.check([0, 0, 0, (0, 13, 3, 3), (9, 0, 0, 0)], opened(), opened(9, name=1), piece(0, "ABC"), state(),
                   state(name=1))

    def test_64_names(self):
        opens = [opened(k, name=k) for k in range(64)]
        pieces = [piece(k, "A" * (k % 30 + 1), name=k) for k in range(64)]
        told = [(k, 3 * (k % 30 + 1), k % 30 + 1, k % 30 + 1) for k in range(64)]
        self.check([0] * 128 + told, *opens, *pieces, *[state(name=k) for k in range(64)])

    def test_names_that_differ_in_one_byte(self):
        for at in range(16):
            other = name_of(0)
            other[at] = 200
            self.check([0, -2], opened(), [5, 16] + other)


if __name__ == "__main__":
    unittest.main()
