"""Ticks parted are the same ticks; and nothing is early, or later than it may."""

import random
import unittest

from sleepers.timers import answer_in_house
from tests.calls import COUNTS, NEXT, all_of, hand, house_after, in_house, left, move, set_timer, sleep, stop, store
from tests.calls import tick, wake, word

DELAYS = (1, 16, 32, 48, 64, 96, 128)
PERIODS = (0, 0, 16, 17, 24, 32, 48, 100, 333)
SLACKS = (0, 0, 1, 3, 7, 20, 64, 500, 65535)
SPANS = (0, 1, 16, 20, 32, 48, 64, 96, 128, 500)


def beginning(draw):
    """Calls that leave timers and hands behind that are often due at one tick."""
    calls = []
    for _ in range(draw.randrange(1, 14)):
        timer = set_timer(draw.randrange(12), draw.choice(DELAYS), draw.choice(PERIODS), draw.choice(SLACKS))
        calls.append(draw.choice((
            timer, timer, timer,
            sleep(draw.randrange(16), draw.randrange(2), 0, draw.randrange(2), draw.choice(SPANS)),
            sleep(draw.randrange(16), draw.randrange(2), 0, 0, draw.choice(SPANS)),
            move(0, draw.randrange(2), draw.randrange(3)),
            wake(1, 1),
            store(1, 0),
            stop(draw.randrange(12)),
            tick(draw.choice((1, 8, 16, 31))),
        )))
    return calls


def asked():
    return [left(which) for which in range(12)] + [hand(which) for which in range(16)] + [word(0), word(1), COUNTS]


class Parted(unittest.TestCase):
    def assert_same(self, calls, parts):
        """The ticks in parts, against all of them in one, and then the same once more."""
        whole = house_after(*calls)
        parted = house_after(*calls)
        for _ in range(2):
            at_once = answer_in_house(whole, 10, [sum(parts)])[0]
            one_by_one = [answer_in_house(parted, 10, [n])[0] for n in parts]
            self.assertEqual(sum(one_by_one), at_once, (calls, parts))
            self.assertGreaterEqual(at_once, 0, (calls, parts))
            self.assertEqual(all_of(parted), all_of(whole), (calls, parts))
            whole.happened.clear()
            parted.happened.clear()

    def test_in_two(self):
        draw = random.Random(1)
        for _ in range(400):
            whole = draw.choice((2, 16, 17, 32, 64, 100, 999, 1000))
            part = draw.randrange(1, whole)
            self.assert_same(beginning(draw), [part, whole - part])

    def test_in_many(self):
        draw = random.Random(2)
        for _ in range(100):
            parts = [draw.choice((1, 1, 2, 15, 16, 17, 32)) for _ in range(draw.randrange(1, 30))]
            self.assert_same(beginning(draw), parts)

    def test_one_by_one(self):
        draw = random.Random(3)
        for _ in range(40):
            self.assert_same(beginning(draw), [1] * 200)

    def test_at_each_place(self):
        calls = [
            set_timer(1, 10, 16, 3), set_timer(2, 16, 16), sleep(1, 1, 0, 1, 32), set_timer(3, 32),
            sleep(2, 1, 0, 0, 48), set_timer(4, 20, 17, 12), move(1, 2, 1),
        ]
        for part in range(1, 100):
            self.assert_same(calls, [part, 100 - part])

    def test_as_the_calls_tell_it(self):
        draw = random.Random(4)
        for _ in range(60):
            calls = beginning(draw)
            behind = [NEXT] * 12 + asked()
            part = draw.randrange(1, 64)
            whole = in_house(*calls, tick(64), *behind)[len(calls):]
            parted = in_house(*calls, tick(part), tick(64 - part), *behind)[len(calls):]
            self.assertEqual(parted[0][0] + parted[1][0], whole[0][0], (calls, part))
            self.assertEqual(parted[2:], whole[1:], (calls, part))


class NeverEarlyNeverTooLate(unittest.TestCase):
    def test_each_happening_of_a_timer(self):
        draw = random.Random(5)
        for _ in range(300):
            delay = draw.randrange(1, 200)
            period = draw.choice((16, 17, 40, draw.randrange(16, 300)))
            slack = draw.choice((0, 1, 5, draw.randrange(400)))
            before = draw.randrange(1, 500)
            behind = draw.randrange(1, 1000)
            house = house_after(tick(before), set_timer(9, delay, period, slack), tick(behind), tick(900))
            earliest = before + delay
            for sort, which, when in house.happened:
                self.assertEqual((sort, which), (0, 9))
                self.assertTrue(earliest <= when <= earliest + slack, (delay, period, slack, when))
                earliest = when + period
            self.assertGreater(house.timers[9].due, house.now)
            self.assertLessEqual(house.timers[9].due, earliest + slack)

    def test_what_happened_stands_in_the_order_of_its_ticks(self):
        draw = random.Random(6)
        for _ in range(200):
            house = house_after(*beginning(draw), tick(draw.randrange(1, 1000)))
            ticks = [when for sort, who, when in house.happened]
            self.assertEqual(ticks, sorted(ticks))
            self.assertTrue(all(when <= house.now for when in ticks))


if __name__ == "__main__":
    unittest.main()
