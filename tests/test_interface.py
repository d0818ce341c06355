"""The interface: how calls lie in the list, and how answers are given back."""

import unittest

from tests.calls import ack, closed, joined, opened, piece, start, state, word
from watchedline.watcher import answers


class ReadOnly(list):
    """A list that refuses to be changed, for a while too."""

    def refuse(self, *given, **named):
        raise AssertionError("the list that was handed in is changed")

    __setitem__ = __delitem__ = __iadd__ = __imul__ = refuse
    append = clear = extend = insert = pop = remove = reverse = sort = refuse


CALLS = joined([start(1, word("AB")), opened(), opened(), piece(0, "AB"), piece(2, "AB"), piece(0, "AC"),
                piece(0, ""), piece(0, "A", name=1), piece(4096, "A"), state(), state(name=1), ack(1), ack(3),
                ack(0, name=1), state(), closed(name=1), closed(), state(), start(1), start(0, word("Q")), opened()])
TOLD = [[2, 0, 0], [2, 0, 0], [2, 0, -17], [2, 0, 0], [2, 0, 1], [2, 0, -17], [2, 0, -22], [2, 0, -2], [2, 0, -34],
        [6, 1, 4, 0, 1, 2, 2], [2, 0, -2], [2, 0, 0], [2, 0, -34], [2, 0, -2], [6, 1, 4, 1, 1, 1, 1], [2, 0, -2],
        [2, 0, 0], [2, 0, -2], [2, 0, -22], [2, 0, 0], [2, 0, 0]]


class Interface(unittest.TestCase):
    def test_how_answers_lie(self):
        self.assertEqual(answers(CALLS), joined(TOLD))

    def test_how_calls_lie(self):
        name = list(range(16))
        calls = [0, 9, 20, 2, 0, 5, 0, 65, 66] + [0] * 14
        calls += [1, 3, 16] + name
        calls += [2, 3, 16] + name + [3, 65, 66, 67]
        calls += [3, 5, 16] + name
        calls += [5, 16] + name
        calls += [4, 16] + name
        calls += [5, 16] + name
        self.assertEqual(answers(calls), [2, 0, 0] * 4 + [6, 1, 4, 5, 5, 1, 1] + [2, 0, 0, 2, 0, -2])

    def test_one_call(self):
        self.assertEqual(answers([0, 7, 20] + word("A")), [2, 0, 0])
        self.assertEqual(answers([0, 7, 0]), [2, 0, -22])

    def test_answers_are_whole_numbers_in_a_list(self):
        answered = answers(CALLS)
        self.assertIs(type(answered), list)
        self.assertEqual({type(number) for number in answered}, {int})

    def test_what_is_handed_in_is_not_changed(self):
        calls = ReadOnly(CALLS)
        answers(calls)
        self.assertEqual(calls, CALLS)

    def test_what_is_given_back_is_not_what_was_handed_in(self):
        calls = list(CALLS)
        answered = answers(calls)
        answered.clear()
        self.assertEqual(calls, CALLS)
        self.assertEqual(answers(calls), joined(TOLD))

    def test_nothing_is_kept_from_one_time_to_the_next(self):
        one = joined([start(1, word("A")), opened(), piece(0, "A"), ack(1), state()])
        other = joined([start(1, word("B")), opened(), piece(0, "BA"), piece(2, "B"), state(), state(name=1)])
        alone_one = [2, 0, 0] * 4 + [6, 1, 4, 1, 1, 0, 0]
        alone_other = [2, 0, 0] * 3 + [2, 0, 1, 6, 1, 4, 0, 1, 2, 2, 2, 0, -2]
        for calls, told in ((one, alone_one), (other, alone_other), (one, alone_one), (one, alone_one),
                            (other, alone_other)):
            self.assertEqual(answers(calls), told)

    def test_a_refused_list_leaves_nothing_either(self):
        calls = joined([start(1)])
        self.assertEqual(answers(calls), [2, 0, -22])
        self.assertEqual(answers(joined([start(1, word("A")), opened()])), [2, 0, 0] * 2)
        self.assertEqual(answers(joined([start(1, word("A")), piece(0, "A")])), [2, 0, 0, 2, 0, -2])

    # assertEqual would spend minutes on how two lists of such a length differ.
    def test_3000_calls(self):
        self.assertTrue(answers([0, 0, 0] * 3000) == [2, 0, -22] * 3000)
        calls = [start(5, word("A")), opened(), piece(0, "A")] + [[0, 0, 0]] * 2994 + [ack(1), state(), closed()]
        told = [2, 0, 0] * 3 + [2, 0, -22] * 2994 + [2, 0, 0, 6, 1, 4, 1, 1, 0, 0, 2, 0, 0]
        self.assertEqual(len(calls), 3000)
        self.assertTrue(answers(joined(calls)) == told)

    def test_30000_numbers(self):
        calls, told = [start(5, word("A")), opened()], [2, 0, 0] * 2
        for at in range(516):
            calls += [piece(at, "B"), ack(at + 1), state()]
            told += [2, 0, 0, 2, 0, 0, 6, 1, 4, at + 1, 0, 0, 0]
        calls += [closed()] + [[0, 0, 0]] * 4
        told += [2, 0, 0] + [2, 0, -22] * 4
        numbers = joined(calls)
        self.assertEqual(len(numbers), 30000)
        self.assertTrue(answers(numbers) == told)

    def test_30000_numbers_in_long_pieces(self):
        words = [word("A" * 16, fold=k % 2) for k in range(64)]
        calls, told = [start(4294967295, *words), opened()], [2, 0, 0] * 2
        end = 0
        for size in [1500] * 18 + [939]:
            calls += [piece(end, "A" * size), ack(end + size)]
            told += [2, 0, 0] * 2
            end += size
        calls.append(state())
        told += [6, 1, 4, end, 64 * 255, 0, 0]
        numbers = joined(calls)
        self.assertEqual(len(numbers), 30000)
        self.assertTrue(answers(numbers) == told)


if __name__ == "__main__":
    unittest.main()
