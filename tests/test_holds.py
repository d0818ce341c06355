"""What holds over the whole program: a to e, each over many drawn orders and cuts of a text."""

import random
import unittest

from tests.calls import ack, ask, closed, opened, piece, start, state
from tests.model import ROUND, drawn_text, drawn_words, weight_of

SEEDS = range(400)
FIRSTS = (0, 7, ROUND - 20, ROUND // 2 - 20)


def drawn_events(draw, text, others=()):
    """Pieces ("piece", at, bytes) and acknowledgements ("ack", at), roughly from the text's beginning to its end.

    Some pieces are cut out of the other texts: they tell a byte otherwise here and there.
    """
    events = []
    for at in range(len(text)):
        for k in range(draw.choice((1, 1, 2))):
            source = draw.choice(others) if others and draw.randrange(4) == 0 else text
            part = source[at:at + draw.choice((1, 1, 2, 3, 8, 20))]
            events.append((at + draw.randrange(25), draw.random(), ("piece", at, part)))
        if draw.randrange(3) == 0:
            events.append((at + draw.randrange(20, 50), draw.random(), ("ack", at + 1)))
    if draw.randrange(2):
        events.append((len(text) + 50, 0, ("piece", 0, text)))
    return [event for when, tie, event in sorted(events, key=lambda drawn: drawn[:2])]


def call_of(event, first, name=0):
    place = (first + event[1]) % ROUND
    return piece(place, event[2], name) if event[0] == "piece" else ack(place, name)


def acked_before_each(events, told):
    """How much had been acknowledged ahead of each event."""
    acked, row = 0, []
    for event, answer in zip(events, told):
        row.append(acked)
        if event[0] == "ack" and answer == 0:
            acked = max(acked, event[1])
    return row


def told_at_each_place(events, told):
    """At each place the bytes that may be delivered there: as pieces tell that passed, and weren't old there."""
    may_be = {}
    for event, answer, acked in zip(events, told, acked_before_each(events, told)):
        if event[0] == "piece" and answer == 0:
            for at, byte in enumerate(event[2], start=event[1]):
                if at >= acked:
                    may_be.setdefault(at, []).append(byte)
    return may_be


def changed(draw, text):
    """The text with some of its bytes told otherwise."""
    return [byte if draw.randrange(6) else ord(draw.choice("abAB")) for byte in text]


class Drawn:
    """One stream's line, drawn: pieces of a text, some told otherwise, with acknowledgements between."""

    def __init__(self, seed):
        self.draw = draw = random.Random(seed)
        self.text = drawn_text(draw, draw.randrange(1, 70), draw.choice(("a", "ab", "abAB@`")))
        self.words = drawn_words(draw, self.text)
        self.weight = weight_of(self.words, dict(enumerate(self.text)))
        self.first = draw.choice(FIRSTS)

    def with_others(self):
        """Events of the text and two like it, with a limit that's often too low; and what they're answered."""
        others = [changed(self.draw, self.text) for k in range(2)]
        self.events = drawn_events(self.draw, self.text, others)
        self.limit = self.draw.choice((0, self.weight // 2, max(0, self.weight - 1), self.weight))
        return self.answered()

    def answered(self):
        calls = [call_of(event, self.first) for event in self.events]
        return ask(start(self.limit, *self.words), opened(self.first), *calls)[2:]


class HoweverItsCut(unittest.TestCase):
    def test_a_what_is_delivered_weighs_no_more_than_the_limit(self):
        kept_back, moved_far = 0, 0
        for seed in SEEDS:
            drawn = Drawn(seed)
            told = drawn.with_others()
            may_be = told_at_each_place(drawn.events, told)
            for k in range(4):
                # One of them has all that passed, the others lack some.
                have = {at: drawn.draw.choice(row) for at, row in may_be.items() if k == 0 or drawn.draw.randrange(9)}
                with self.subTest(seed=seed):
                    self.assertLessEqual(weight_of(drawn.words, have), drawn.limit)
            kept_back += told.count(1)
            moved_far += max(acked_before_each(drawn.events, told)) > 16
        self.assertGreater(kept_back, 1000)
        self.assertGreater(moved_far, 100)

    def test_a_found_is_what_the_whole_weighs(self):
        for seed in SEEDS:
            drawn = Drawn(seed)
            told = drawn.with_others()
            have = {at: row[0] for at, row in told_at_each_place(drawn.events, told).items()}
            calls = [call_of(event, drawn.first) for event in drawn.events] + [state()]
            weighs = ask(start(drawn.limit, *drawn.words), opened(drawn.first), *calls)[-1][1]
            with self.subTest(seed=seed):
                self.assertEqual(weighs, weight_of(drawn.words, have))


class OnlyThatIsKeptBack(unittest.TestCase):
    def test_b_parts_of_a_text_that_may_pass_do(self):
        moved = 0
        for seed in SEEDS:
            drawn = Drawn(seed)
            drawn.limit = drawn.weight
            drawn.events = drawn_events(drawn.draw, drawn.text)
            told = drawn.answered()
            with self.subTest(seed=seed):
                self.assertEqual({answer for event, answer in zip(drawn.events, told) if event[0] == "piece"}, {0})
            moved += max(acked_before_each(drawn.events, told)) > 16
        self.assertGreater(moved, 100)

    def test_b_parts_of_a_text_that_is_too_heavy_do_not_all(self):
        for seed in SEEDS:
            drawn = Drawn(seed)
            if drawn.weight == 0:
                continue
            drawn.limit = drawn.weight - 1
            drawn.events = drawn_events(drawn.draw, drawn.text)
            told = drawn.answered()
            with self.subTest(seed=seed):
                self.assertIn(1, told)

    def test_b_but_not_too_far_ahead(self):
        too_far = 0
        for seed in range(25):
            draw = random.Random(seed)
            text = drawn_text(draw, 12000, "abcdefgh")
            words = drawn_words(draw, text)
            limit = weight_of(words, dict(enumerate(text)))
            first = draw.choice(FIRSTS + (ROUND - 6000,))
            events, end = [], 0
            while end < len(text):
                step = draw.randrange(1, 1501)
                at = draw.randrange(max(0, end - 3000), min(len(text), end + 5000))
                events += [("piece", end, text[end:end + step]), ("piece", at, text[at:at + draw.randrange(1, 1501)])]
                end = min(end + step, len(text))
                events.append(("ack", end - draw.choice((0, 0, 7, 15, 16, 300))))
            told = ask(start(limit, *words), opened(first), *[call_of(event, first) for event in events])[2:]
            for event, answer, acked in zip(events, told, acked_before_each(events, told)):
                if event[0] == "piece":
                    far = event[1] + len(event[2]) > acked + 4096
                    self.assertEqual(answer, -34 if far else 0)
                    too_far += far
        self.assertGreater(too_far, 20)


class AllHaveTheSame(unittest.TestCase):
    def test_c_one_byte_at_each_place(self):
        told_otherwise = 0
        for seed in SEEDS:
            drawn = Drawn(seed)
            told = drawn.with_others()
            for at, row in told_at_each_place(drawn.events, told).items():
                with self.subTest(seed=seed, at=at):
                    self.assertEqual(len(set(row)), 1)
            told_otherwise += told.count(-17)
        self.assertGreater(told_otherwise, 1000)


class InWhicheverOrder(unittest.TestCase):
    def test_d_two_pieces_the_other_way_about(self):
        both_passed = 0
        for seed in SEEDS:
            drawn = Drawn(seed)
            told = drawn.with_others()
            begun = [start(drawn.limit, *drawn.words), opened(drawn.first)]
            calls = begun + [call_of(event, drawn.first) for event in drawn.events]
            pairs = [k for k in range(len(told) - 1)
                     if told[k:k + 2] == [0, 0] and drawn.events[k][0] == drawn.events[k + 1][0] == "piece"]
            # What's left the same shows in the state, and in the answers to all that comes behind.
            for k in drawn.draw.sample(pairs, min(4, len(pairs))):
                at = k + 2
                before, one, other, behind = calls[:at], calls[at], calls[at + 1], calls[at + 2:]
                with self.subTest(seed=seed, at=at):
                    self.assertEqual(ask(*before, other, one, state(), *behind, state()),
                                     ask(*before, one, other, state(), *behind, state()))
                both_passed += 1
        self.assertGreater(both_passed, 500)

    def test_d_any_order_of_all_parts(self):
        for seed in SEEDS:
            drawn = Drawn(seed)
            parts = [event for event in drawn_events(drawn.draw, drawn.text) if event[0] == "piece"]
            parts.append(("piece", 0, drawn.text))
            drawn.draw.shuffle(parts)
            calls = [call_of(part, drawn.first) for part in parts] + [state()]
            size = len(drawn.text)
            with self.subTest(seed=seed):
                self.assertEqual(ask(start(drawn.weight, *drawn.words), opened(drawn.first), *calls),
                                 [0] * (len(calls) + 1) + [(drawn.first, drawn.weight, size, size)])


class EachByItself(unittest.TestCase):
    def drawn_calls(self, draw, text, name):
        """What comes on one stream from fl_open on; now and then it's closed and opened again."""
        first = draw.choice(FIRSTS)
        calls = [opened(first, name)]
        for event in drawn_events(draw, text, [changed(draw, text)]):
            calls.append(call_of(event, first, name))
            if draw.randrange(12) == 0:
                calls.append(state(name))
            if draw.randrange(60) == 0:
                calls += [closed(name), opened((first + event[1]) % ROUND, name)]
        return calls + [state(name)]

    def test_e_among_others_as_alone(self):
        for seed in SEEDS:
            draw = random.Random(seed)
            text = drawn_text(draw, draw.randrange(1, 40), "ab")
            words = drawn_words(draw, text)
            rules = start(draw.choice((0, 3, 30, 300)), *words)
            alone = [self.drawn_calls(draw, text, name) for name in range(draw.choice((2, 3, 5)))]
            turns = [name for name, calls in enumerate(alone) for call in calls]
            draw.shuffle(turns)
            left = [iter(calls) for calls in alone]
            told = ask(rules, *[next(left[name]) for name in turns])[1:]
            for name, calls in enumerate(alone):
                with self.subTest(seed=seed, name=name):
                    self.assertEqual([answer for turn, answer in zip(turns, told) if turn == name],
                                     ask(rules, *calls)[1:])


if __name__ == "__main__":
    unittest.main()
