"""Points 2 to 4: set, stop, left."""

import unittest

from sleepers.timers import House, answer_in_house, moved_a_little
from tests.calls import LONGEST, OPEN, in_house, last, left, set_timer, stop


def halvings(tick):
    times = 0
    while tick % 2 == 0:
        tick //= 2
        times += 1
    return times


class MovedALittle(unittest.TestCase):
    def test_is_the_tick_that_halves_most_often(self):
        for earliest in range(1, 130):
            for slack in range(0, 70):
                best = max(range(earliest, earliest + slack + 1), key=halvings)
                self.assertEqual(moved_a_little(earliest, slack), best, (earliest, slack))

    def test_at_large_ticks(self):
        for earliest in (LONGEST - 1, LONGEST, LONGEST + 1, 2 ** 30 - 3, 2 ** 30, 2 ** 30 + 77777):
            for slack in (0, 1, 2, 1000, 65534, 65535):
                best = max(range(earliest, earliest + slack + 1), key=halvings)
                self.assertEqual(moved_a_little(earliest, slack), best, (earliest, slack))


class Set(unittest.TestCase):
    def test_without_slack_is_off_by_the_delay(self):
        for delay in (1, 2, 3, 7, 1000, 12345, LONGEST - 1, LONGEST):
            self.assertEqual(last(OPEN, set_timer(5, delay)), [delay])

    def test_with_slack_is_moved(self):
        for delay, slack, off in (
            (5, 2, 6), (5, 3, 8), (5, 0, 5), (9, 6, 12), (9, 7, 16), (16, 15, 16),
            (1, 1, 2), (1, 65535, 65536), (2, 65535, 65536), (65537, 65535, 131072),
            (LONGEST, 65535, LONGEST), (LONGEST - 1, 1, LONGEST), (LONGEST - 1, 0, LONGEST - 1),
            (65537, 65534, 98304), (100, 28, 128), (100, 27, 112),
        ):
            self.assertEqual(last(OPEN, set_timer(5, delay, 0, slack)), [off], (delay, slack))

    def test_period_does_not_change_how_far_off_it_is(self):
        for period in (0, 16, 17, 1000, LONGEST - 1, LONGEST):
            self.assertEqual(in_house(set_timer(5, 9, period, 6), left(5)), [[12], [12]])

    def test_first_and_last_timer(self):
        self.assertEqual(
            in_house(set_timer(0, 10), set_timer(63, 20), left(0), left(63)),
            [[10], [20], [10], [20]],
        )

    def test_all_edges_at_once(self):
        self.assertEqual(last(OPEN, set_timer(0, 1, 0, 0)), [1])
        self.assertEqual(last(OPEN, set_timer(63, LONGEST, LONGEST, 65535)), [LONGEST])
        self.assertEqual(last(OPEN, set_timer(63, LONGEST, 16, 65535)), [LONGEST])

    def test_anew(self):
        self.assertEqual(
            in_house(set_timer(4, 100), set_timer(4, 7, 16, 1), left(4), stop(4), left(4)),
            [[100], [8], [8], [1], [-6]],
        )

    def test_moves_by_the_tick_and_not_by_the_delay(self):
        house = House()
        house.now = 99
        # Of the ticks 104 to 107 it's 104; of the delays 5 to 8 it would have been 8.
        self.assertEqual(answer_in_house(house, 2, [3, 5, 0, 3]), [5])
        # Of the ticks 107 to 112 it's 112; of the delays 8 to 13 it would have been 8.
        self.assertEqual(answer_in_house(house, 2, [4, 8, 0, 5]), [13])
        self.assertEqual(house.timers[4].due, 112)
        house.now = 110
        self.assertEqual(answer_in_house(house, 4, [4]), [2])

    def test_keeps_period_and_slack(self):
        house = House()
        answer_in_house(house, 2, [3, 5, 40, 3])
        timer = house.timers[3]
        self.assertEqual((timer.due, timer.period, timer.slack), (8, 40, 3))
        answer_in_house(house, 2, [3, 6, 0, 0])
        timer = house.timers[3]
        self.assertEqual((timer.due, timer.period, timer.slack), (6, 0, 0))


class Stop(unittest.TestCase):
    def test_one_if_it_was_set_else_nought(self):
        self.assertEqual(
            in_house(stop(9), set_timer(9, 50), stop(9), stop(9), left(9)),
            [[0], [50], [1], [0], [-6]],
        )

    def test_a_timer_with_a_period(self):
        self.assertEqual(in_house(set_timer(9, 50, 16), stop(9), left(9), stop(9)), [[50], [1], [-6], [0]])

    def test_only_that_one(self):
        self.assertEqual(
            in_house(set_timer(0, 1), set_timer(1, 2), set_timer(63, 3), stop(1), left(0), left(1), left(63)),
            [[1], [2], [3], [1], [1], [-6], [3]],
        )

    def test_set_again_behind_a_stop(self):
        self.assertEqual(
            in_house(set_timer(9, 50), stop(9), set_timer(9, 60), left(9)),
            [[50], [1], [60], [60]],
        )

    def test_first_and_last_timer(self):
        for timer in (0, 63):
            self.assertEqual(in_house(stop(timer), set_timer(timer, 2), stop(timer)), [[0], [2], [1]])


class Left(unittest.TestCase):
    def test_not_set(self):
        for timer in (0, 1, 62, 63):
            self.assertEqual(last(OPEN, left(timer)), [-6])

    def test_how_far_off_with_its_slack(self):
        self.assertEqual(in_house(set_timer(63, 9, 0, 7), left(63), left(63)), [[16], [16], [16]])

    def test_other_timers_do_not_count(self):
        self.assertEqual(in_house(set_timer(1, 9), left(0), left(2)), [[9], [-6], [-6]])


if __name__ == "__main__":
    unittest.main()
