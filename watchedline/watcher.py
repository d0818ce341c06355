"""The watcher over a list of numbers: calls go in, answers come out."""

from watchedline.line import NO_SUCH_STREAM, Line

FL_START = 0
FL_OPEN = 1
FL_PIECE = 2
FL_ACK = 3
FL_CLOSE = 4
FL_STATE = 5

NUMBER_FORM = 0
STATE_FORM = 1


class UnknownCall(ValueError):
    """A call whose number stands for none of the calls."""


class Reader:
    """Reads a list of numbers from its beginning on, and leaves it as it is."""

    def __init__(self, numbers):
        self.numbers = numbers
        self.position = 0

    def has_more(self):
        return self.position < len(self.numbers)

    def read_number(self):
        number = self.numbers[self.position]
        self.position += 1
        return number

    def read_row(self):
        size = self.read_number()
        row = self.numbers[self.position:self.position + size]
        self.position += size
        return row


def answer_start(line, reader):
    limit = reader.read_number()
    rules = reader.read_row()
    return [NUMBER_FORM, line.fl_start(limit, rules)]


def answer_open(line, reader):
    first = reader.read_number()
    name = reader.read_row()
    return [NUMBER_FORM, line.fl_open(first, name)]


def answer_piece(line, reader):
    place = reader.read_number()
    name = reader.read_row()
    b = reader.read_row()
    return [NUMBER_FORM, line.fl_piece(place, name, b)]


def answer_ack(line, reader):
    place = reader.read_number()
    name = reader.read_row()
    return [NUMBER_FORM, line.fl_ack(place, name)]


def answer_close(line, reader):
    name = reader.read_row()
    return [NUMBER_FORM, line.fl_close(name)]


def answer_state(line, reader):
    name = reader.read_row()
    out = line.fl_state(name)
    if out == NO_SUCH_STREAM:
        return [NUMBER_FORM, out]
    return [STATE_FORM, len(out)] + out


def answer_call(line, reader):
    """Read one call, do it, and give back its answer: the form, and what's told."""
    call = reader.read_number()
    if call == FL_START:
        return answer_start(line, reader)
    if call == FL_OPEN:
        return answer_open(line, reader)
    if call == FL_PIECE:
        return answer_piece(line, reader)
    if call == FL_ACK:
        return answer_ack(line, reader)
    if call == FL_CLOSE:
        return answer_close(line, reader)
    if call == FL_STATE:
        return answer_state(line, reader)
    raise UnknownCall(f"no call has the number {call}")


def answers(calls):
    """Answer the calls on one new line, each answer with how many numbers it has before it."""
    line = Line()
    reader = Reader(calls)
    answered = []
    while reader.has_more():
        answer = answer_call(line, reader)
        answered.append(len(answer))
        answered.extend(answer)
    return answered
