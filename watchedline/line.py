"""The watcher's calls, on one object."""

from watchedline.stream import PLACES, Stream
from watchedline.words import rules_are_as_told, weight_of, words_of

MOST_STREAMS = 64
LONGEST_PIECE = 1500

DONE = 0
KEPT_BACK = 1
NO_SUCH_STREAM = -2
KNOWN_ALREADY = -17
NOT_AS_TOLD = -22
NO_ROOM = -28
TOO_FAR = -34


class Line:
    """A line at its beginning, and the calls that come on it."""

    def __init__(self):
        self.limit = 0
        self.words = []
        self.streams = {}

    def fl_start(self, limit, rules):
        if not rules_are_as_told(rules):
            return NOT_AS_TOLD
        self.limit = limit
        self.words = words_of(rules)
        self.streams = {}
        return DONE

    def fl_open(self, first, name):
        if tuple(name) in self.streams:
            return KNOWN_ALREADY
        if len(self.streams) >= MOST_STREAMS:
            return NO_ROOM
        self.streams[tuple(name)] = Stream(first, len(self.words))
        return DONE

    def fl_piece(self, place, name, b):
        if len(b) < 1 or len(b) > LONGEST_PIECE:
            return NOT_AS_TOLD
        stream = self.stream_of(name)
        if stream is None:
            return NO_SUCH_STREAM
        distance = stream.ahead(place)
        if distance + len(b) > PLACES:
            return TOO_FAR
        # Old bytes aren't looked at, so only what's from the base on is told.
        told = b[max(0, -distance):]
        return self.take_in(stream, max(0, distance), told)

    def fl_ack(self, place, name):
        stream = self.stream_of(name)
        if stream is None:
            return NO_SUCH_STREAM
        distance = stream.ahead(place)
        # One that comes late says less than was said before, and takes nothing back.
        if distance < 0:
            return DONE
        if distance > stream.known_without_gap():
            return TOO_FAR
        stream.move_base(distance)
        return DONE

    def fl_close(self, name):
        if self.stream_of(name) is None:
            return NO_SUCH_STREAM
        self.streams.pop(tuple(name))
        return DONE

    def fl_state(self, name):
        stream = self.stream_of(name)
        if stream is None:
            return NO_SUCH_STREAM
        weight = weight_of(self.words, stream.found)
        return [stream.base, weight, stream.known_without_gap(), stream.known_in_all()]

    def stream_of(self, name):
        """The stream of that name, None if there's no such stream."""
        return self.streams.get(tuple(name))

    def take_in(self, stream, start, told):
        """Make the told bytes known, unless they're told otherwise or what's found gets too heavy."""
        if stream.told_otherwise(start, told):
            return KNOWN_ALREADY
        found = stream.found_with(self.words, start, told)
        if weight_of(self.words, found) > self.limit:
            return KEPT_BACK
        stream.known = stream.known_with(start, told)
        stream.found = found
        return DONE
