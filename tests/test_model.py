"""Many lists of calls, against a plain retelling of the points in other words."""

import random
import unittest

from sleepers.timers import answers
from tests.calls import HIGHEST, LAST_NUMBER, LONGEST, LOWEST, parted


def best_tick(earliest, slack):
    step = 2 ** 40
    while True:
        tick = -(-earliest // step) * step
        if tick <= earliest + slack:
            return tick
        step //= 2


class Model:
    def __init__(self):
        self.due = [None] * 64
        self.asleep = [None] * 16
        self.words = [0] * 64

    def set(self, timer, delay, period, slack):
        period_told = period == 0 or period in range(16, LONGEST + 1)
        if not (timer in range(64) and delay in range(1, LONGEST + 1) and period_told and slack in range(65536)):
            return [-2]
        self.due[timer] = best_tick(delay, slack)
        return [self.due[timer]]

    def stop(self, timer):
        if timer not in range(64):
            return [-2]
        was = self.due[timer]
        self.due[timer] = None
        return [int(was is not None)]

    def left(self, timer):
        if timer not in range(64):
            return [-2]
        return [-6 if self.due[timer] is None else self.due[timer]]

    def sleep(self, hand, word, number, watches, span):
        if hand not in range(16) or word not in range(64) or watches not in (0, 1) or span not in range(LONGEST + 1):
            return [-2]
        if self.asleep[hand]:
            return [-4]
        if self.words[word] != number:
            return [1]
        self.asleep[hand] = (word, watches)
        return [0]

    def store(self, word, number):
        if word not in range(64):
            return [-2]
        self.words[word] = number
        woken = self.asleep.count((word, 1))
        self.asleep = [None if place == (word, 1) else place for place in self.asleep]
        return [woken]

    def add(self, word, number):
        if word not in range(64):
            return [-2]
        was = self.words[word]
        return self.store(word, (was + number) & LAST_NUMBER) + [was]


NAMES = {2: "set", 3: "stop", 4: "left", 5: "sleep", 6: "store", 7: "add"}


def drawn(draw, few, edges):
    """Mostly one of a few, so that calls meet; at times an edge or beyond it."""
    if draw.random() < 0.9:
        return draw.choice(few)
    return draw.choice(edges)


def drawn_call(draw):
    timer = drawn(draw, (0, 1, 63), (-1, 64, LOWEST, HIGHEST))
    word = drawn(draw, (0, 63), (-1, 64, LOWEST, HIGHEST))
    number = drawn(draw, (0, 1, LAST_NUMBER), (2, 2 ** 31, LAST_NUMBER - 1))
    call = draw.choice((1, 2, 3, 4, 5, 5, 5, 6, 7) if draw.random() < 0.1 else (2, 3, 4, 5, 5, 5, 6, 7))
    if call == 1:
        return [1]
    if call == 2:
        delay = drawn(draw, (1, LONGEST, draw.randrange(1, 300), draw.randrange(1, LONGEST)), (0, LONGEST + 1, LOWEST))
        period = drawn(draw, (0, 16, LONGEST), (1, 15, -1, LONGEST + 1))
        slack = drawn(draw, (0, 1, 65535, draw.randrange(300), draw.randrange(65536)), (-1, 65536, HIGHEST))
        return [2, timer, delay, period, slack]
    if call in (3, 4):
        return [call, timer]
    if call == 5:
        hand = drawn(draw, (0, 1, 2, 15), (-1, 16, LOWEST, HIGHEST))
        return [5, hand, word, number, drawn(draw, (0, 1), (-1, 2)), drawn(draw, (0, 9, LONGEST), (-1, LONGEST + 1))]
    return [call, word, number]


def retold(calls):
    model = None
    for call in calls:
        if call == [1]:
            model = Model()
            yield [0]
        elif model is None:
            yield [-7]
        else:
            yield getattr(model, NAMES[call[0]])(*call[1:])


class AgainstTheModel(unittest.TestCase):
    def test_many_lists(self):
        draw = random.Random(20261118)
        for _ in range(1500):
            calls = [drawn_call(draw) for _ in range(draw.randrange(0, 3))]
            calls = calls + [[1]] + [drawn_call(draw) for _ in range(draw.randrange(1, 57))]
            handed = [number for call in calls for number in call]
            self.assertEqual(parted(answers(handed)), list(retold(calls)), calls)


if __name__ == "__main__":
    unittest.main()
