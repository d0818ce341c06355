"""Many small lines, drawn from a fixed seed, against the document's words taken literally; and what holds."""

import random
import unittest

from tests.calls import ask, bytes_of, opened, piece, start, word

ROUND = 2 ** 32


class Model:
    """Streams as dicts from how far ahead a place lies to its byte; all is counted anew each time."""

    def __init__(self):
        self.streams = {}

    def start(self, limit, words):
        fine = 1 <= len(words) <= 64
        for row in words:
            fine = fine and 1 <= row[0] <= 16 and row[1] in (0, 1) and row[2] in range(128) and row[3] == 0
        if not fine:
            return -22
        self.limit, self.words, self.streams = limit, words, {}
        return 0

    def open(self, first, name):
        if name in self.streams:
            return -17
        if len(self.streams) == 64:
            return -28
        self.streams[name] = (first, {})
        return 0

    def piece(self, place, text, name):
        if not 1 <= len(text) <= 1500:
            return -22
        if name not in self.streams:
            return -2
        first, known = self.streams[name]
        told = {}
        for at, byte in enumerate(text):
            ahead = (place + at - first) % ROUND
            ahead = ahead - ROUND if ahead >= ROUND // 2 else ahead
            told[ahead] = byte
        if any(ahead >= 4096 for ahead in told):
            return -34
        told = {ahead: byte for ahead, byte in told.items() if ahead >= 0}
        if any(known.get(ahead, byte) != byte for ahead, byte in told.items()):
            return -17
        together = {**known, **told}
        if weight_of(self.words, together) > self.limit:
            return 1
        known.update(told)
        return 0


def stands(row, known, at):
    for k in range(row[0]):
        byte = known.get(at + k)
        if byte is None:
            return False
        same = byte == row[4 + k]
        if row[1] == 1 and bytes([byte]).isalpha():
            same = bytes([byte]).lower() == bytes([row[4 + k]]).lower()
        if not same:
            return False
    return True


def weight_of(words, known):
    return sum(row[2] * min(255, sum(stands(row, known, at) for at in known)) for row in words)


def drawn_words(draw):
    words = []
    for k in range(draw.choice((1, 2, 5))):
        spelling = "".join(draw.choice("abAB@`") for at in range(draw.choice((1, 2, 3, 5, 16))))
        words.append(word(spelling, weight=draw.choice((0, 1, 2, 30)), fold=draw.choice((0, 1)), filler=65))
    return words


def drawn_line(draw):
    """A line of calls, and what the model answers each."""
    model, calls, told = Model(), [], []
    firsts = [draw.choice((0, 5, ROUND - 1, ROUND - 9, ROUND // 2)) for k in range(3)]
    for k in range(draw.randrange(5, 60)):
        sort = 0 if not calls else draw.choice((1,) + (2,) * 12 + (() if draw.randrange(9) else (0,)))
        name = draw.randrange(3)
        if sort == 0:
            words = drawn_words(draw)
            if told and draw.randrange(2):
                words[-1][draw.choice((0, 1, 2, 3))] = 200
            limit = draw.choice((0, 1, 3, 8, 40, 300))
            calls.append(start(limit, *words))
            told.append(model.start(limit, words))
        elif sort == 1:
            calls.append(opened(firsts[name], name))
            told.append(model.open(firsts[name], name))
        else:
            place = (firsts[name] + draw.choice((draw.randrange(-6, 30), 4090, ROUND // 2 - 3))) % ROUND
            text = bytes_of("".join(draw.choice("abAB@`") for at in range(draw.choice((0, 1, 1, 2, 3, 6, 20)))))
            calls.append(piece(place, text, name))
            told.append(model.piece(place, text, name))
    return calls, told


class AgainstTheModel(unittest.TestCase):
    def test_drawn_lines(self):
        seen = set()
        for seed in range(1500):
            calls, told = drawn_line(random.Random(seed))
            with self.subTest(seed=seed):
                self.assertEqual(ask(*calls), told)
            seen.update(told)
        self.assertEqual(seen, {0, 1, -2, -17, -22, -34})


class WhatHolds(unittest.TestCase):
    def drawn_parts(self, draw):
        text = [draw.choice(b"abAB") for at in range(draw.randrange(1, 60))]
        cuts = [draw.randrange(len(text)) for k in range(25)]
        parts = [(cut, text[cut:cut + draw.randrange(1, 20)]) for cut in cuts] + [(0, text)]
        draw.shuffle(parts)
        return text, parts

    def test_however_it_is_cut_and_only_that_is_kept_back(self):
        for seed in range(300):
            draw = random.Random(seed)
            words = drawn_words(draw)
            text, parts = self.drawn_parts(draw)
            weight = weight_of(words, dict(enumerate(text)))
            first = draw.choice((0, ROUND - 20))
            calls = [piece((first + at) % ROUND, part) for at, part in parts]
            self.assertEqual(ask(start(weight, *words), opened(first), *calls), [0] * (len(calls) + 2))
            if weight > 0:
                told = ask(start(weight - 1, *words), opened(first), *calls)
                passed = {}
                for (at, part), answer in zip(parts, told[2:]):
                    if answer == 0:
                        passed.update(enumerate(part, start=at))
                self.assertIn(1, told)
                self.assertLess(weight_of(words, passed), weight)

    def test_in_whichever_order(self):
        for seed in range(300):
            draw = random.Random(seed)
            words = drawn_words(draw)
            text, parts = self.drawn_parts(draw)
            limit = draw.choice((0, 1, 5, 50))
            begun = [start(limit, *words), opened()] + [piece(at, part) for at, part in parts[4:]]
            after = [piece(at, part) for at, part in parts[2:]] + [piece(at, text[at:at + 1]) for at in range(len(text))]
            one, other = [piece(at, part) for at, part in parts[:2]]
            told = ask(*begun, one, other, *after)
            swapped = ask(*begun, other, one, *after)
            size = len(begun)
            if told[size:size + 2] == [0, 0]:
                self.assertEqual(swapped, told)


if __name__ == "__main__":
    unittest.main()
