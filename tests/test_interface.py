"""The interface: how calls lie in the list, and how answers are given back."""

import unittest

from tests.calls import joined, opened, piece, start, word
from watchedline.watcher import answers


class ReadOnly(list):
    """A list that refuses to be changed, for a while too."""

    def refuse(self, *given, **named):
        raise AssertionError("the list that was handed in is changed")

    __setitem__ = __delitem__ = __iadd__ = __imul__ = refuse
    append = clear = extend = insert = pop = remove = reverse = sort = refuse


CALLS = joined([start(1, word("AB")), opened(), opened(), piece(0, "AB"), piece(2, "AB"), piece(0, "AC"),
                piece(0, ""), piece(0, "A", name=1), piece(4096, "A"), start(1), start(0, word("Q")), opened()])
TOLD = [0, 0, -17, 0, 1, -17, -22, -2, -34, -22, 0, 0]


class Interface(unittest.TestCase):
    def test_how_answers_lie(self):
        self.assertEqual(answers(CALLS), joined([[2, 0, number] for number in TOLD]))

    def test_one_call(self):
        self.assertEqual(answers([0, 7, 20] + word("A")), [2, 0, 0])
        self.assertEqual(answers([0, 7, 0]), [2, 0, -22])

    def test_answers_are_whole_numbers_in_a_list(self):
        answered = answers(CALLS)
        self.assertIs(type(answered), list)
        self.assertEqual({type(number) for number in answered}, {int})

    def test_what_is_handed_in_is_not_changed(self):
        calls = ReadOnly(CALLS)
        answers(calls)
        self.assertEqual(calls, CALLS)

    def test_what_is_given_back_is_not_what_was_handed_in(self):
        calls = list(CALLS)
        answered = answers(calls)
        answered.clear()
        self.assertEqual(calls, CALLS)
        self.assertEqual(len(answers(calls)), 3 * len(TOLD))

    def test_nothing_is_kept_from_one_time_to_the_next(self):
        one = joined([start(1, word("A")), opened(), piece(0, "A")])
        other = joined([start(1, word("B")), opened(), piece(0, "BA"), piece(2, "B")])
        alone_one = [2, 0, 0] * 3
        alone_other = [2, 0, 0] * 3 + [2, 0, 1]
        for calls, told in ((one, alone_one), (other, alone_other), (one, alone_one), (one, alone_one),
                            (other, alone_other)):
            self.assertEqual(answers(calls), told)

    def test_a_refused_list_leaves_nothing_either(self):
        calls = joined([start(1)])
        self.assertEqual(answers(calls), [2, 0, -22])
        self.assertEqual(answers(joined([start(1, word("A")), opened()])), [2, 0, 0] * 2)
        self.assertEqual(answers(joined([start(1, word("A")), piece(0, "A")])), [2, 0, 0, 2, 0, -2])

    # assertEqual would spend minutes on how two lists of such a length differ.
    def test_3000_calls(self):
        self.assertTrue(answers([0, 0, 0] * 3000) == [2, 0, -22] * 3000)

    def test_30000_numbers(self):
        calls = joined([start(5, word("A")), opened()] + [piece(k, "B") for k in range(1400)])
        self.assertTrue(answers(calls) == [2, 0, 0] * 1402)


if __name__ == "__main__":
    unittest.main()
