"""Builds lists of calls, and reads the answers to them."""

from watchedline.watcher import answers


def bytes_of(text):
    """A row of bytes from a text, bytes or a list."""
    if isinstance(text, str):
        return list(text.encode("latin-1"))
    return list(text)


def name_of(number):
    """A name of 16 bytes; two differ in their last byte alone."""
    return [7] * 15 + [number]


def word(text, weight=1, fold=0, n=None, none=0, filler=0):
    row = bytes_of(text)
    size = len(row) if n is None else n
    return [size, fold, weight, none] + (row + [filler] * 16)[:16]


def start(limit, *words):
    rules = [number for row in words for number in row]
    return [0, limit, len(rules)] + rules


def opened(first=0, name=0):
    return [1, first, 16] + name_of(name)


def piece(place, text, name=0):
    row = bytes_of(text)
    return [2, place, 16] + name_of(name) + [len(row)] + row


def joined(calls):
    return [number for call in calls for number in call]


def numbers_answered(flat):
    """The number of each answer; all answers here are of the form 0."""
    if len(flat) % 3 != 0 or flat[0::3] != [2] * (len(flat) // 3) or any(flat[1::3]):
        raise AssertionError(f"not answers of two numbers each, of the form 0: {flat}")
    return flat[2::3]


def ask(*calls):
    """What the calls, on one new object, are answered."""
    return numbers_answered(answers(joined(calls)))
