"""One stream: what is known of it from its base on, and what was found in it."""

from watchedline.words import UNKNOWN, times_of_each

ROUND = 4294967296
HALF_ROUND = 2147483648
PLACES = 4096

# A word has 16 bytes at most, so one that holds a byte reaches at most so far before or behind it.
REACH = 15


class Stream:
    """A stream as it is when it's opened: nothing known, nothing found."""

    def __init__(self, base, word_count):
        self.base = base
        self.before = []
        self.known = [UNKNOWN] * PLACES
        self.found = [0] * word_count

    def ahead(self, place):
        """How far the place lies ahead of the base, less than 0 if it's old."""
        return (place - self.base + HALF_ROUND) % ROUND - HALF_ROUND

    def told_otherwise(self, start, told):
        """Whether a byte that's known, from start on, differs from what's told there."""
        held = self.known[start:start + len(told)]
        return any([old != UNKNOWN and old != new for old, new in zip(held, told)])

    def known_without_gap(self):
        """How many bytes are known from the base on, up to the first that isn't."""
        return self.known.index(UNKNOWN) if UNKNOWN in self.known else PLACES

    def known_in_all(self):
        """How many bytes are known from the base on, behind gaps too."""
        return PLACES - self.known.count(UNKNOWN)

    def move_base(self, steps):
        """Lay the base so many places ahead; all bytes up to there are known."""
        # A word that isn't found yet has a byte behind these, so it reaches no further back.
        self.before = (self.before + self.known[:steps])[-REACH:]
        self.known = self.known[steps:] + [UNKNOWN] * steps
        self.base = (self.base + steps) % ROUND

    def known_with(self, start, told):
        """What would be known if these bytes were, from start on."""
        return self.known[:start] + told + self.known[start + len(told):]

    def found_with(self, words, start, told):
        """How often each word would be found if these bytes were known."""
        now = times_of_each(words, self.around(self.known, start, len(told)))
        then = times_of_each(words, self.around(self.known_with(start, told), start, len(told)))
        return [found + new - old for found, new, old in zip(self.found, then, now)]

    def around(self, known, start, size):
        """The places from start on, and as far to both sides as a word over them reaches."""
        text = self.before + known
        middle = len(self.before) + start
        return text[max(0, middle - REACH):middle + size + REACH]
