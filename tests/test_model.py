"""Many small lines, drawn from a fixed seed, against the document's words taken literally."""

import random
import unittest

from tests.calls import ack, ask, closed, opened, piece, start, state
from tests.model import ROUND, Model, drawn_text, drawn_words

NAMES = 3
SORTS = ("piece",) * 12 + ("ack",) * 5 + ("state",) * 3 + ("open",) * 2


class Drawing:
    """Draws a line of calls, call by call, and has the model answer each."""

    def __init__(self, seed):
        self.draw = random.Random(seed)
        self.model = Model()
        self.texts = [drawn_text(self.draw, 80, self.draw.choice(("a", "ab", "abAB@`"))) for name in range(NAMES)]
        self.calls, self.told = [], []
        self.start(may_be_wrong=False)
        self.open(0)
        for k in range(self.draw.randrange(5, 70)):
            self.one(self.draw.randrange(NAMES))

    def one(self, name):
        rare = self.draw.randrange(80)
        if rare == 0:
            self.start(may_be_wrong=True)
        elif rare <= 2:
            self.put(closed(name), self.model.close(name))
        else:
            getattr(self, self.draw.choice(SORTS))(name)

    def put(self, call, told):
        self.calls.append(call)
        self.told.append(told)

    def start(self, may_be_wrong):
        words = drawn_words(self.draw, self.texts[0])
        if may_be_wrong and self.draw.randrange(2):
            words[-1][self.draw.choice((0, 1, 2, 3))] = 200
        limit = self.draw.choice((0, 1, 3, 8, 40, 300, 5000))
        self.put(start(limit, *words), self.model.start(limit, words))

    def open(self, name):
        first = self.draw.choice((0, 5, ROUND - 1, ROUND - 30, ROUND // 2))
        self.put(opened(first, name), self.model.open(first, name))

    def place(self, name, behind):
        """A place so far behind the base of that stream, if there's one."""
        stream = self.model.streams.get(name)
        return behind % ROUND if stream is None else (stream.first + stream.acked + behind) % ROUND

    def piece(self, name):
        stream = self.model.streams.get(name)
        size = self.draw.choice((0, 1, 1, 2, 3, 6, 20))
        behind = self.draw.randrange(-6, 30)
        text = drawn_text(self.draw, size)
        if stream is not None and self.draw.randrange(8):
            behind = max(self.draw.choice((behind, stream.without_gap())), -stream.acked)
            text = self.texts[name][stream.acked + behind:][:size]
        elif self.draw.randrange(3) == 0:
            behind = self.draw.choice((4090, 4095, ROUND // 2 - 3, ROUND // 2))
        place = self.place(name, behind)
        self.put(piece(place, text, name), self.model.piece(place, text, name))

    def ack(self, name):
        stream = self.model.streams.get(name)
        known = 0 if stream is None else stream.without_gap()
        behind = self.draw.choice((-1, 0, 1, known // 2, known, known, known, known + 1, ROUND // 2 - 1, ROUND // 2))
        place = self.place(name, behind)
        self.put(ack(place, name), self.model.ack(place, name))

    def state(self, name):
        self.put(state(name), self.model.state(name))


class AgainstTheModel(unittest.TestCase):
    def test_drawn_lines(self):
        numbers, bases_moved, weighed = set(), 0, 0
        for seed in range(1500):
            drawing = Drawing(seed)
            with self.subTest(seed=seed):
                self.assertEqual(ask(*drawing.calls), drawing.told)
            numbers.update(told for told in drawing.told if isinstance(told, int))
            bases_moved += sum(stream.acked > 15 for stream in drawing.model.streams.values())
            weighed += sum(told[1] > 0 for told in drawing.told if isinstance(told, tuple))
        # Lines that never come to these would show little.
        self.assertEqual(numbers, {0, 1, -2, -17, -22, -34})
        self.assertGreater(bases_moved, 100)
        self.assertGreater(weighed, 500)


if __name__ == "__main__":
    unittest.main()
