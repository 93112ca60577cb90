"""Many lists of calls, against a plain retelling of the points in other words."""

import random
import unittest

from sleepers.timers import answers
from tests.calls import HIGHEST, LAST_NUMBER, LONGEST, LOWEST, parted

FAR = (LOWEST, HIGHEST)


def best_tick(earliest, slack):
    step = 2 ** 40
    while True:
        tick = -(-earliest // step) * step
        if tick <= earliest + slack:
            return tick
        step //= 2


class Model:
    """Ticks go by one at a time, and orders are lists in which who comes behind is put at the end."""

    def __init__(self):
        self.now = 0
        self.timers = {}
        self.hands = {}
        self.words = [0] * 64
        self.queue = []
        self.common = []
        self.log = []
        self.taken = 0

    def end(self, thing):
        if thing in self.common:
            self.common.remove(thing)

    def begin(self, thing):
        self.end(thing)
        self.common.append(thing)

    def happen(self, sort, who):
        self.log.append([sort, who, self.now])

    def rouse(self, hand, sort):
        self.hands.pop(hand)
        self.queue.remove(hand)
        self.end(("hand", hand))
        self.happen(sort, hand)

    def there(self, word, watches):
        return [hand for hand in self.queue if self.hands[hand][:2] == (word, watches)]

    def set(self, timer, delay, period, slack):
        period_told = period == 0 or period in range(16, LONGEST + 1)
        if not (timer in range(64) and delay in range(1, LONGEST + 1) and period_told and slack in range(65536)):
            return [-2]
        self.timers[timer] = (best_tick(self.now + delay, slack), period, slack)
        self.begin(("timer", timer))
        return self.left(timer)

    def stop(self, timer):
        if timer not in range(64):
            return [-2]
        self.end(("timer", timer))
        return [int(self.timers.pop(timer, None) is not None)]

    def left(self, timer):
        if timer not in range(64):
            return [-2]
        return [self.timers[timer][0] - self.now if timer in self.timers else -6]

    def sleep(self, hand, word, number, watches, span):
        if hand not in range(16) or word not in range(64) or watches not in (0, 1) or span not in range(LONGEST + 1):
            return [-2]
        if hand in self.hands:
            return [-4]
        if self.words[word] != number:
            return [1]
        self.hands[hand] = (word, watches, self.now + span if span else 0)
        self.queue.append(hand)
        self.begin(("hand", hand))
        return [0]

    def store(self, word, number):
        if word not in range(64):
            return [-2]
        self.words[word] = number
        woken = self.there(word, 1)
        for hand in woken:
            self.rouse(hand, 1)
        return [len(woken)]

    def add(self, word, number):
        if word not in range(64):
            return [-2]
        was = self.words[word]
        return self.store(word, (was + number) & LAST_NUMBER) + [was]

    def wake(self, word, n):
        if word not in range(64) or n not in range(17):
            return [-2]
        woken = 0
        while woken < n and self.there(word, 0):
            self.rouse(self.there(word, 0)[0], 2)
            woken += 1
        return [woken]

    def move(self, word, other, n):
        if word not in range(64) or other not in range(64) or n not in range(17):
            return [-2]
        moved = self.there(word, 0)[:n]
        self.queue = [hand for hand in self.queue if hand not in moved] + moved
        for hand in moved:
            self.hands[hand] = (other,) + self.hands[hand][1:]
        return [len(moved)]

    def tick(self, n):
        if n not in range(1, 1001) or self.now + n > 2 ** 30:
            return [-2]
        if len(self.log) - self.taken > 1024:
            return [-5]
        before = len(self.log)
        for _ in range(n):
            self.now += 1
            for sort, who in list(self.common):
                if sort == "hand" and self.hands[who][2] == self.now:
                    self.rouse(who, 3)
                if sort == "timer" and self.timers[who][0] == self.now:
                    self.happen(0, who)
                    due, period, slack = self.timers[who]
                    self.stop(who)
                    if period:
                        self.set(who, period, period, slack)
        return [len(self.log) - before]

    def next(self):
        if self.taken == len(self.log):
            return [-6]
        self.taken += 1
        return self.log[self.taken - 1]

    def hand(self, hand):
        if hand not in range(16):
            return [-2]
        if hand not in self.hands:
            return [0, 0, 0, 0]
        word, watches, late = self.hands[hand]
        return [1, word, watches, late - self.now if late else 0]

    def word(self, word):
        if word not in range(64):
            return [-2]
        return [0, self.words[word], len(self.there(word, 1)), len(self.there(word, 0))]

    def counts(self):
        sorts = [thing[0] for thing in self.log]
        return [0] + [sorts.count(sort) for sort in range(4)] + [
            self.now, len(self.timers), len(self.hands), len(self.log) - self.taken
        ]


NAMES = {
    2: "set", 3: "stop", 4: "left", 5: "sleep", 6: "store", 7: "add", 8: "wake", 9: "move", 10: "tick", 11: "next",
    12: "hand", 13: "word", 14: "counts",
}


def drawn(draw, few, edges, beyond):
    """Mostly one of a few, so that calls meet; at times an edge or beyond it."""
    if draw.random() >= beyond:
        return draw.choice(few)
    return draw.choice(edges)


def drawn_numbers(draw, call, beyond):
    timer = drawn(draw, (0, 1, 2, 63), (-1, 64) + FAR, beyond)
    hand = drawn(draw, (0, 1, 2, 3, 14, 15), (-1, 16) + FAR, beyond)
    word = drawn(draw, (0, 63), (-1, 64) + FAR, beyond)
    number = drawn(draw, (0, 0, 1, LAST_NUMBER), (2, 2 ** 31, LAST_NUMBER - 1), beyond)
    n = drawn(draw, (0, 1, 1, 2, 3, 16), (-1, 17) + FAR, beyond)
    if call == 2:
        near = (1, 16, 32, 64, draw.randrange(1, 300))
        delay = drawn(draw, near + near + (LONGEST, draw.randrange(1, LONGEST)), (0, LONGEST + 1) + FAR, beyond)
        period = drawn(draw, (0, 0, 16, 16, 17, 32, LONGEST), (1, 15, -1, LONGEST + 1) + FAR, beyond)
        slack = drawn(draw, (0, 0, 1, 15, draw.randrange(300), draw.randrange(65536)), (-1, 65536, 65535) + FAR, beyond)
        return [timer, delay, period, slack]
    if call == 5:
        span = drawn(draw, (0, 1, 16, 32, 64, draw.randrange(300)), (-1, LONGEST, LONGEST + 1) + FAR, beyond)
        return [hand, word, number, drawn(draw, (0, 0, 1), (-1, 2) + FAR, beyond), span]
    if call == 9:
        return [word, drawn(draw, (0, 1, 63), (-1, 64) + FAR, beyond), n]
    if call == 10:
        return [drawn(draw, (1, 8, 16, 16, 32, 100, draw.randrange(1, 300)), (0, 1001, 1000, 1000) + FAR, beyond)]
    few = {3: [timer], 4: [timer], 6: [word, number], 7: [word, number], 8: [word, n], 12: [hand], 13: [word]}
    return few.get(call, [])


OFTEN = (2, 2, 2, 3, 4, 5, 5, 5, 5, 6, 7, 8, 8, 9, 9, 10, 10, 10, 11, 11, 11, 12, 13, 14)


def drawn_call(draw, beyond):
    call = 1 if draw.random() < 0.005 else draw.choice(OFTEN)
    return [call] + drawn_numbers(draw, call, beyond)


def retold(calls):
    model = None
    for call in calls:
        if call == [1]:
            model = Model()
            yield [0]
        elif model is None:
            yield [-7]
        else:
            yield getattr(model, NAMES[call[0]])(*call[1:])


class AgainstTheModel(unittest.TestCase):
    def assert_as_retold(self, calls):
        handed = [number for call in calls for number in call]
        self.assertLessEqual(len(handed), 500)
        self.assertLessEqual(len(calls), 60)
        self.assertEqual(parted(answers(handed)), list(retold(calls)), calls)

    def test_many_lists(self):
        draw = random.Random(20261118)
        for _ in range(1200):
            beyond = draw.choice((0, 0.02, 0.2))
            calls = [drawn_call(draw, beyond) for _ in range(draw.randrange(0, 3))]
            calls = calls + [[1]] + [drawn_call(draw, beyond) for _ in range(draw.randrange(1, 58))]
            self.assert_as_retold(calls)

    def test_many_things_at_one_tick(self):
        draw = random.Random(20261119)
        for _ in range(250):
            calls = [[1]]
            for _ in range(26):
                delay = draw.choice((16, 32, 48))
                calls.append(draw.choice((
                    [2, draw.randrange(64), delay, draw.choice((0, 16, 16, 32)), draw.choice((0, 0, 7))],
                    [5, draw.randrange(16), draw.randrange(2), 0, draw.randrange(2), draw.choice((16, 32, 48, 64))],
                    [9, draw.randrange(2), draw.randrange(2), draw.randrange(3)],
                    [10, 16],
                )))
            self.assert_as_retold(calls + [[10, 64]] + [[11]] * 32)

    def test_till_too_many_are_not_taken(self):
        draw = random.Random(20261120)
        for _ in range(15):
            timers = [[2, which, draw.randrange(1, 60), 16, draw.choice((0, 0, 3))] for which in range(20)]
            ticks = [draw.choice(([10, 1000], [10, 300], [10, 7], [11], [14])) for _ in range(39)]
            self.assert_as_retold([[1]] + timers + ticks)


if __name__ == "__main__":
    unittest.main()
