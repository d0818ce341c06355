"""Builds lists of calls, and reads the answers to them."""

from watchedline.watcher import answers


def bytes_of(text):
    """A row of bytes from a text, bytes or a list."""
    if isinstance(text, str):
        return list(text.encode("latin-1"))
    return list(text)


def name_of(number):
    """A name of 16 bytes; two differ in their last byte alone."""
    return [7] * 15 + [number]


def word(text, weight=1, fold=0, n=None, none=0, filler=0):
    row = bytes_of(text)
    size = len(row) if n is None else n
    return [size, fold, weight, none] + (row + [filler] * 16)[:16]


def start(limit, *words):
    rules = [number for row in words for number in row]
    return [0, limit, len(rules)] + rules


def opened(first=0, name=0):
    return [1, first, 16] + name_of(name)


def piece(place, text, name=0):
    row = bytes_of(text)
    return [2, place, 16] + name_of(name) + [len(row)] + row


def ack(place, name=0):
    return [3, place, 16] + name_of(name)


def closed(name=0):
    return [4, 16] + name_of(name)


def state(name=0):
    return [5, 16] + name_of(name)


def joined(calls):
    return [number for call in calls for number in call]


def answers_told(flat):
    """Each answer in turn: its number, or the four numbers of a state as a tuple."""
    told, at = [], 0
    while at < len(flat):
        size = flat[at]
        answer = flat[at + 1:at + 1 + size]
        if size == 2 and len(answer) == 2 and answer[0] == 0:
            told.append(answer[1])
        elif size == 6 and len(answer) == 6 and answer[:2] == [1, 4]:
            told.append(tuple(answer[2:]))
        else:
            raise AssertionError(f"not an answer, from number {at} on: {flat[at:at + 8]}")
        at += 1 + size
    return told


def ask(*calls):
    """What the calls, on one new object, are answered."""
    return answers_told(answers(joined(calls)))
