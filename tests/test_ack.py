"""Promise 4: fl_ack, and the bytes before the base that fl_piece looks at behind one."""

import unittest

from tests.calls import ack, ask, closed, opened, piece, start, state, word

ROUND = 4294967296
FIRSTS = (0, 1, 77, ROUND // 2 - 1, ROUND // 2, ROUND - 4096, ROUND - 1)
RULES = start(5, word("A"))


def all_places(first):
    """Pieces that make all of the 4,096 places known."""
    return (piece(first, "B" * 1500), piece((first + 1500) % ROUND, "C" * 1500),
            piece((first + 3000) % ROUND, "D" * 1096))


class Answers(unittest.TestCase):
    def check(self, told, *calls):
        self.assertEqual(ask(RULES, *calls), [0] + told)

    def test_no_such_stream(self):
        self.check([-2, 0, -2, 0], ack(0), opened(name=1), ack(0, name=2), ack(0, name=1))
        self.check([0, 0, -2], opened(), closed(), ack(0))
        self.check([0, 0, -2], opened(), RULES, ack(0))

    def test_no_such_stream_is_named_ahead_of_the_rest(self):
        self.check([0] + [-2] * 4, opened(name=1), ack(ROUND - 1), ack(1), ack(2 ** 31), ack(2 ** 31 - 1))

    def test_nothing_is_known(self):
        for first in FIRSTS:
            with self.subTest(first=first):
                same = (first, 0, 0, 0)
                self.check([0, 0, same, 0, same, -34, same], opened(first), ack((first - 1) % ROUND), state(),
                           ack(first), state(), ack((first + 1) % ROUND), state())

    def test_one_ahead_and_known(self):
        for first in FIRSTS:
            with self.subTest(first=first):
                self.check([0, 0, 0, (first, 0, 2, 2), 0, (first, 0, 2, 2), 0, ((first + 1) % ROUND, 0, 1, 1)],
                           opened(first), piece(first, "BC"), ack((first - 1) % ROUND), state(), ack(first), state(),
                           ack((first + 1) % ROUND), state())

    def test_as_far_as_can_be(self):
        for first in FIRSTS:
            old = [ack((first + 2 ** 31 + k) % ROUND) for k in (0, 1, 2)]
            ahead = [ack((first + 2 ** 31 - k) % ROUND) for k in (1, 2)]
            with self.subTest(first=first):
                self.check([0, 0, 0, 0, -34, -34, (first, 0, 0, 0)], opened(first), *old, *ahead, state())
                self.check([0] * 7 + [-34, -34, (first, 0, 4096, 4096)], opened(first), *all_places(first), *old,
                           *ahead, state())

    def test_up_to_a_gap_and_behind_it(self):
        begun = (opened(), piece(0, "BCD"), piece(4, "EF"))
        for place, answer in ((0, 0), (1, 0), (2, 0), (3, 0), (4, -34), (5, -34), (6, -34), (7, -34)):
            with self.subTest(place=place):
                base = place if answer == 0 else 0
                self.check([0, 0, 0, answer, (base, 0, 3 - base, 5 - base)], *begun, ack(place), state())
        self.check([0, 0, 0, 0, (3, 0, 0, 2), -34, 0, 0, (6, 0, 0, 0)], *begun, ack(3), state(), ack(4),
                   piece(3, "X"), ack(6), state())

    def test_the_first_byte_is_the_gap(self):
        self.check([0, 0, 0, -34, -34, (0, 0, 0, 3)], opened(), piece(1, "BCD"), ack(0), ack(1), ack(4), state())

    def test_all_of_the_places_and_one_more(self):
        for first in FIRSTS:
            end = (first + 4096) % ROUND
            beyond = (end + 1) % ROUND
            with self.subTest(first=first):
                self.check([0] * 4 + [-34, (first, 0, 4096, 4096), 0, (end, 0, 0, 0), 0, -34], opened(first),
                           *all_places(first), ack(beyond), state(), ack(end), state(), ack(end), ack(beyond))

    def test_all_but_the_last_place(self):
        begun = (opened(), piece(0, "B" * 1500), piece(1500, "C" * 1500), piece(3000, "D" * 1095))
        self.check([0] * 4 + [-34, 0, -34, (4095, 0, 0, 0)], *begun, ack(4096), ack(4095), ack(4096), state())

    def test_places_that_go_round(self):
        calls = (opened(ROUND - 3), piece(ROUND - 3, "BCDEFG"), ack(ROUND - 1), state(), ack(0), state(),
                 ack(ROUND - 1), state(), ack(4), ack(3), state(), piece(0, "XYZA"), state())
        self.check([0, 0, 0, (ROUND - 1, 0, 4, 4), 0, (0, 0, 3, 3), 0, (0, 0, 3, 3), -34, 0, (3, 0, 0, 0), 0,
                    (3, 1, 1, 1)], *calls)

    def test_one_that_comes_late(self):
        begun = (opened(), piece(0, "B" * 12), ack(10))
        for late in (0, 5, 9, 10, ROUND - 1, 10 + 2 ** 31):
            with self.subTest(late=late):
                self.check([0, 0, 0, 0, (10, 0, 2, 2), 0, -17, 0], *begun, ack(late), state(), piece(5, "CCCCCB"),
                           piece(10, "C"), ack(12))

    def test_one_told_twice(self):
        self.check([0, 0, 0, 0, (2, 0, 1, 1)], opened(), piece(0, "BCD"), ack(2), ack(2), state())

    def test_each_stream_by_itself(self):
        self.check([0, 0, 0, 0, 0, (2, 0, 0, 0), (0, 0, 2, 2), -17], opened(), opened(name=1), piece(0, "BC"),
                   piece(0, "BC", name=1), ack(2), state(), state(name=1), piece(0, "X", name=1))


class ChangesNothing(unittest.TestCase):
    """What comes behind is answered as if the acknowledgement hadn't come."""

    BEGUN = (start(1, word("AB"), word("QR")), opened(20), piece(20, "XXA"), ack(23), piece(23, "CD"), piece(26, "A"))
    AFTER = (state(), piece(22, "AB"), piece(23, "X"), piece(23, "CD"), piece(26, "B"), piece(4118, "QRQR"),
             piece(4118, "Q"), piece(4119, "ST"), piece(25, "QR"), piece(25, "BAB"), piece(28, "A"), piece(29, "B"),
             state(), ack(28), state())
    TOLD = [(23, 0, 2, 3), -17, -17, 0, -17, -34, 0, -34, -17, 0, 0, 1, (23, 1, 6, 7), 0, (28, 1, 1, 2)]

    def check(self, *between):
        self.assertEqual(ask(*self.BEGUN, *between, *self.AFTER)[6 + len(between):], self.TOLD)

    def test_refused(self):
        self.check()
        for place in (26, 27, 28, 4119, 4120, 23 + 2 ** 31 - 1):
            with self.subTest(place=place):
                self.assertEqual(ask(*self.BEGUN, ack(place))[6:], [-34])
                self.check(ack(place))
        self.check(ack(0, name=1))

    def test_old(self):
        for place in (22, 21, 20, 19, 0, ROUND - 1, 23 + 2 ** 31):
            with self.subTest(place=place):
                self.assertEqual(ask(*self.BEGUN, ack(place))[6:], [0])
                self.check(ack(place))


class TheNewBase(unittest.TestCase):
    def check(self, told, *calls):
        self.assertEqual(ask(RULES, *calls), [0] + told)

    def test_known_as_before(self):
        begun = (opened(), piece(0, "BCDEFG"), piece(10, "Q"), ack(2))
        self.check([0] * 4 + [-17, -17, -17, 0, 0], *begun, piece(2, "X"), piece(5, "X"), piece(10, "X"),
                   piece(2, "DEFG"), piece(9, "PQR"))
        self.check([0] * 5 + [-17, 0, (6, 0, 0, 1)], *begun, ack(6), piece(10, "R"), piece(10, "Q"), state())

    def test_what_was_acknowledged_is_old(self):
        self.check([0] * 3 + [0, 0, -17, (2, 0, 4, 4)], opened(), piece(0, "BCDEFG"), ack(2), piece(0, "XX"),
                   piece(0, "XYDE"), piece(0, "BCX"), state())

    def test_places_count_from_the_new_base(self):
        for first in FIRSTS:
            for steps in (1, 2, 1000, 4096):
                last = (first + steps + 4095) % ROUND
                beyond = (last + 1) % ROUND
                base = (first + steps) % ROUND
                # A single place that comes in leaves no gap ahead of it.
                without_gap = 4096 if steps == 1 else 4096 - steps
                with self.subTest(first=first, steps=steps):
                    self.check([0] * 4 + [0, -34, 0, -34, (base, 0, without_gap, 4097 - steps)], opened(first),
                               *all_places(first), ack(base), piece(beyond, "B"), piece(last, "B"),
                               piece(last, "BB"), state())

    def test_nothing_is_known_at_the_places_that_come_in(self):
        self.check([0, 0, 0, 0, -17, (6, 0, 0, 6)], opened(), piece(0, "BCDEFG"), ack(6), piece(4096, "UVWXYZ"),
                   piece(4096, "B"), state())
        self.check([0] * 4 + [0, 0, -17, (4096, 0, 3, 3)], opened(), *all_places(0), ack(4096), piece(4096, "XYZ"),
                   piece(4097, "B"), state())

    def test_a_long_stream(self):
        calls = [opened(ROUND - 5000)]
        for at in range(0, 12000, 1000):
            place = (ROUND - 5000 + at) % ROUND
            calls += [piece(place, "B" * 1000), ack((place + 1000) % ROUND)]
        self.check([0] * 25 + [(7000, 0, 0, 0)], *calls, state())


class WordsOverTheBase(unittest.TestCase):
    TEXT = "ABCDEFGHIJKLMNOP"

    def over(self, filler, size, acks):
        """What a 16-byte word that's cut by the base at size is answered, with limits of 0 and of 1."""
        behind = len(filler) + size
        begun = (opened(), piece(0, filler + self.TEXT[:size])) + tuple(ack(place) for place in acks + [behind])
        rest = piece(behind, self.TEXT[size:])
        kept = ask(start(0, word(self.TEXT)), *begun, rest, piece(behind, self.TEXT[size:-1] + "X"), state())
        passed = ask(start(1, word(self.TEXT)), *begun, rest, state())
        return kept[len(begun) + 1:] + passed[len(begun) + 1:]

    def test_before_the_base_fewer_than_15_just_15_and_more(self):
        for size in range(1, 16):
            for before in (size, 13, 14, 15, 16, 17, 40):
                filler = "X" * max(0, before - size)
                behind = len(filler) + size
                left = 16 - size
                told = [1, 0, (behind, 0, left, left), 0, (behind, 1, left, left)]
                with self.subTest(size=size, before=behind):
                    self.assertEqual(self.over(filler, size, []), told)
                    self.assertEqual(self.over(filler, size, [behind // 2]), told)
                    self.assertEqual(self.over(filler, size, list(range(1, behind))), told)

    def test_15_of_16_bytes_before_the_base(self):
        for filler in ("", "X", "X" * 15, "X" * 100):
            end = len(filler) + 15
            calls = (start(0, word(self.TEXT)), opened(), piece(0, filler + self.TEXT[:15]), ack(end),
                     piece(end, "P"), piece(end + 1, "P"), piece(end, "Q"))
            self.assertEqual(ask(*calls), [0, 0, 0, 0, 1, 0, 0])

    def test_the_bytes_before_the_base_in_their_order(self):
        calls = (start(0, word("ABAA")), opened(), piece(0, "A"), ack(1), piece(1, "B"), ack(2), piece(2, "A"),
                 ack(3), piece(3, "A"), piece(3, "B"))
        self.assertEqual(ask(*calls), [0] * 8 + [1, 0])

    def test_a_gap_behind_the_base_filled_last(self):
        calls = (start(0, word("ABCD")), opened(), piece(0, "A"), piece(2, "CD"), ack(1), piece(1, "B"),
                 piece(1, "X"), ack(4), state())
        self.assertEqual(ask(*calls), [0, 0, 0, 0, 0, 1, 0, 0, (4, 0, 0, 0)])

    def test_as_many_as_there_were(self):
        # No byte stands before first, one of value 0 neither.
        for size in (2, 3, 15, 16):
            rules = start(0, word([0] * size))
            singles = [call for at in range(size - 1) for call in (piece(at, [0]), ack(at + 1))]
            told = ask(rules, opened(), *singles, piece(size - 1, [0]), piece(size - 1, [1]))
            self.assertEqual(told, [0] * (2 * size) + [1, 0])

    def test_old_bytes_do_not_take_the_place_of_those_before_the_base(self):
        calls = (start(0, word("AB"), word("XB")), opened(), piece(0, "A"), ack(1), piece(0, "XB"), piece(0, "XC"))
        self.assertEqual(ask(*calls), [0, 0, 0, 0, 1, 0])
        calls = (start(0, word("XB")), opened(), piece(0, "A"), ack(1), piece(0, "X"), piece(0, "XB"))
        self.assertEqual(ask(*calls), [0] * 6)

    def test_fold(self):
        calls = (start(0, word("aBc", fold=1)), opened(), piece(0, "Ab"), ack(2), piece(2, "C"), piece(2, "@"))
        self.assertEqual(ask(*calls), [0, 0, 0, 0, 1, 0])

    def test_over_the_round(self):
        for first in (ROUND - 1, ROUND - 2, ROUND - 3):
            base = (first + 2) % ROUND
            calls = (start(0, word("ABC")), opened(first), piece(first, "AB"), ack(base), piece(base, "C"),
                     piece(base, "X"))
            self.assertEqual(ask(*calls), [0, 0, 0, 0, 1, 0])

    def test_a_word_before_the_base_is_not_found_once_more(self):
        for behind in ("B", "BA", "XA", "A"):
            calls = (start(1, word("AB")), opened(), piece(0, "AB"), ack(2), piece(2, behind), state())
            size = len(behind)
            self.assertEqual(ask(*calls), [0] * 5 + [(2, 1, size, size)])
        calls = (start(1, word("A" * 15)), opened(), piece(0, "A" * 15), ack(15), piece(15, "B"), piece(16, "A" * 14),
                 state(), piece(30, "A"))
        self.assertEqual(ask(*calls), [0] * 6 + [(15, 1, 15, 15), 1])

    def test_words_within_one_another_over_the_base(self):
        calls = (start(9, word("AA")), opened(), piece(0, "AAA"), state(), ack(2), piece(3, "A"), state(), ack(4),
                 state(), piece(4, "AA"), state())
        self.assertEqual(ask(*calls), [0, 0, 0, (0, 2, 3, 3), 0, 0, (2, 3, 2, 2), 0, (4, 3, 0, 0), 0, (4, 5, 2, 2)])

    def test_what_was_found_stays_found(self):
        for size in (1, 14, 15, 16, 40, 1000):
            end = 2 + size
            calls = (start(1, word("AB")), opened(), piece(0, "AB"), ack(2), state(), piece(2, "X" * size), ack(end),
                     state(), piece(end, "AB"), piece(end, "AX"), state())
            self.assertEqual(ask(*calls), [0] * 4 + [(2, 1, 0, 0), 0, 0, (end, 1, 0, 0), 1, 0, (end, 1, 2, 2)])

    def test_255_times_over_acknowledgements(self):
        calls, told = [start(255, word("A"), word("B")), opened()], [0, 0]
        for at in range(0, 500, 50):
            calls += [piece(at, "A" * 50), ack(at + 50), state()]
            told += [0, 0, (at + 50, min(255, at + 50), 0, 0)]
        self.assertEqual(ask(*calls, piece(500, "B"), piece(500, "A")), told + [1, 0])


if __name__ == "__main__":
    unittest.main()
