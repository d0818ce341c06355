"""The document's words taken literally and slowly, to compare with; and what's drawn from a seed."""

from tests.calls import word

ROUND = 2 ** 32


class Stream:
    """All bytes that passed since it was opened, by how far behind first they lie."""

    def __init__(self, first):
        self.first = first
        self.acked = 0
        self.passed = {}

    def ahead(self, place):
        distance = (place - self.first - self.acked) % ROUND
        return distance - ROUND if distance >= ROUND // 2 else distance

    def without_gap(self):
        end = self.acked
        while end in self.passed:
            end += 1
        return end - self.acked


class Model:
    """Keeps each stream whole, and counts all of it anew each time; there's no base within what it counts."""

    def __init__(self):
        self.streams = {}

    def start(self, limit, words):
        fine = 1 <= len(words) <= 64
        for row in words:
            fine = fine and 1 <= row[0] <= 16 and row[1] in (0, 1) and row[2] in range(128) and row[3] == 0
        if not fine:
            return -22
        self.limit, self.words, self.streams = limit, words, {}
        return 0

    def open(self, first, name):
        if name in self.streams:
            return -17
        if len(self.streams) == 64:
            return -28
        self.streams[name] = Stream(first)
        return 0

    def piece(self, place, text, name):
        if not 1 <= len(text) <= 1500:
            return -22
        if name not in self.streams:
            return -2
        stream = self.streams[name]
        told = {stream.ahead(place + at): byte for at, byte in enumerate(text)}
        if any(ahead >= 4096 for ahead in told):
            return -34
        told = {stream.acked + ahead: byte for ahead, byte in told.items() if ahead >= 0}
        if any(stream.passed.get(at, byte) != byte for at, byte in told.items()):
            return -17
        together = {**stream.passed, **told}
        if weight_of(self.words, together) > self.limit:
            return 1
        stream.passed = together
        return 0

    def ack(self, place, name):
        if name not in self.streams:
            return -2
        stream = self.streams[name]
        ahead = stream.ahead(place)
        if ahead < 0:
            return 0
        if ahead > stream.without_gap():
            return -34
        stream.acked += ahead
        return 0

    def close(self, name):
        return -2 if self.streams.pop(name, None) is None else 0

    def state(self, name):
        if name not in self.streams:
            return -2
        stream = self.streams[name]
        in_all = len([at for at in stream.passed if at >= stream.acked])
        base = (stream.first + stream.acked) % ROUND
        return (base, weight_of(self.words, stream.passed), stream.without_gap(), in_all)


def stands(row, known, at):
    for k in range(row[0]):
        byte = known.get(at + k)
        if byte is None:
            return False
        same = byte == row[4 + k]
        if row[1] == 1 and bytes([byte]).isalpha():
            same = bytes([byte]).lower() == bytes([row[4 + k]]).lower()
        if not same:
            return False
    return True


def weight_of(words, known):
    """What the words weigh in a text that's a dict from places to bytes."""
    return sum(row[2] * min(255, sum(stands(row, known, at) for at in known)) for row in words)


def drawn_text(draw, size, letters="abAB@`"):
    return [ord(draw.choice(letters)) for at in range(size)]


def drawn_words(draw, text=()):
    """Some words; of a text that's given, about half are cut out of it, so that long ones stand there too."""
    words = []
    for k in range(draw.choice((1, 2, 5))):
        size = draw.choice((1, 2, 3, 5, 15, 16))
        spelling = drawn_text(draw, size)
        if len(text) >= size and draw.randrange(2):
            at = draw.randrange(len(text) - size + 1)
            spelling = list(text[at:at + size])
        words.append(word(spelling, weight=draw.choice((0, 1, 2, 30)), fold=draw.choice((0, 1)), filler=65))
    return words
