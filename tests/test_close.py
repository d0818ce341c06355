"""Promise 5: fl_close."""

import unittest

from tests.calls import ack, ask, closed, name_of, opened, piece, start, state, word

RULES = start(1, word("AB"))


class Close(unittest.TestCase):
    def check(self, told, *calls):
        self.assertEqual(ask(RULES, *calls), [0] + told)

    def test_no_such_stream(self):
        self.check([-2], closed())
        self.check([0, -2, (0, 0, 0, 0)], opened(name=1), closed(name=2), state(name=1))
        self.check([0, 0, -2], opened(), RULES, closed())

    def test_closed_twice(self):
        self.check([0, 0, -2, -2], opened(), closed(), closed(), closed())

    def test_then_there_is_none(self):
        self.check([0, 0, 0, -2, -2, -2], opened(), piece(0, "B"), closed(), piece(0, "B"), ack(0), state())

    def test_opened_again(self):
        again = (closed(), opened(1))
        self.check([0, 0, 0, 0, (1, 0, 0, 0), 0], opened(), piece(0, "XY"), *again, state(), piece(0, "QR"))
        self.check([0, 0, 0, 0, 0, 0, (1, 1, 2, 2)], opened(), piece(0, "AB"), closed(), opened(1), piece(1, "AB"),
                   ack(1), state())
        self.check([0, 0, 0, 0, 0, (5000, 0, 0, 0), 0, -34], opened(), piece(0, "X"), ack(1), closed(), opened(5000),
                   state(), piece(9095, "X"), piece(9096, "X"))

    def test_no_bytes_before_the_base(self):
        for size in (1, 15, 20):
            begun = (opened(), piece(0, "A" * size), ack(size), closed(), opened(size))
            self.check([0] * 5 + [0, (size, 0, 1, 1)], *begun, piece(size, "B"), state())

    def test_nothing_found(self):
        self.check([0, 0, 0, 0, 0, 1], opened(), piece(0, "AB"), closed(), opened(), piece(0, "AB"), piece(2, "AB"))

    def test_opened_while_it_is_there(self):
        self.check([0, -17, 0, 0, -17], opened(), opened(), closed(), opened(), opened())

    def test_64_names_one_closed_another_opened(self):
        opens = [opened(name=k) for k in range(64)]
        for gone in (0, 31, 63):
            with self.subTest(gone=gone):
                self.check([0] * 64 + [-28, 0, 0, -28, -28, -2, 0], *opens, opened(name=64), closed(name=gone),
                           opened(name=64), opened(name=65), opened(name=gone), state(name=gone),
                           piece(0, "AB", name=64))

    def test_64_names_all_closed(self):
        names = range(64)
        self.check([0] * 192, *[opened(name=k) for k in names], *[closed(name=k) for k in names],
                   *[opened(name=k + 64) for k in names])

    def test_refused_makes_no_room(self):
        opens = [opened(name=k) for k in range(64)]
        self.check([0] * 64 + [-2, -28], *opens, closed(name=64), opened(name=64))

    def test_the_others_stay(self):
        self.check([0] * 5 + [0, (7, 1, 2, 3), -17, 1], opened(7, name=1), opened(), opened(name=2),
                   piece(7, "AB", name=1), piece(10, "A", name=1), closed(), state(name=1), piece(7, "X", name=1),
                   piece(11, "B", name=1))

    def test_names_that_differ_in_one_byte(self):
        for at in range(16):
            other = name_of(0)
            other[at] = 200
            self.check([0, -2, (0, 0, 0, 0)], opened(), [4, 16] + other, state())

    def test_closed_and_opened_often(self):
        self.check([0] * 600, *[opened(), piece(0, "AB"), closed()] * 200)


if __name__ == "__main__":
    unittest.main()
