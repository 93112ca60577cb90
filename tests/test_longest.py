"""The longest lists that may be handed in: they end, quickly, and are answered as told."""

import time
import unittest

from sleepers.timers import answers
from tests.calls import COUNTS, HIGHEST, LAST_NUMBER, LOWEST, NEXT, OPEN, add, hand, line, move, parted
from tests.calls import set_timer, sleep, store, tick, wake, word

# Far more than any of these lists needs, so that only a wrong way of going through them is found.
SECONDS = 5


def told_in_time(*calls):
    handed = line(*calls)
    if len(handed) > 500 or len(calls) > 60:
        raise AssertionError(f"{len(handed)} numbers in {len(calls)} calls are too many")
    kept = list(handed)
    begun = time.perf_counter()
    given = answers(handed)
    if time.perf_counter() - begun > SECONDS:
        raise AssertionError("it took too long")
    if handed != kept or answers(handed) != given:
        raise AssertionError("the list was changed, or something was kept")
    return parted(given)


class Longest(unittest.TestCase):
    def test_many_timers_with_the_shortest_period(self):
        timers = [set_timer(which, 1, 16) for which in range(57)]
        given = told_in_time(OPEN, *timers, tick(1000), tick(1000))
        self.assertEqual(given[-2:], [[57 * 63], [-5]])

    def test_many_timers_and_all_hands(self):
        timers = [set_timer(which, 1, 16) for which in range(40)]
        falls = [sleep(which, which, 0, which % 2, 1000) for which in range(16)]
        given = told_in_time(OPEN, *timers, *falls, tick(1000), COUNTS, NEXT)
        self.assertEqual(given[-3:], [[40 * 63 + 16], [0, 2520, 0, 0, 16, 1000, 40, 0, 2536], [0, 0, 1]])

    def test_one_timer_and_many_ticks(self):
        given = told_in_time(OPEN, set_timer(0, 16, 16), *[tick(1000)] * 58)
        untaken = 0
        for answer in given[2:]:
            if untaken > 1024:
                self.assertEqual(answer, [-5])
            else:
                self.assertIn(answer, ([62], [63]))
                untaken += answer[0]
        self.assertEqual(untaken, 17 * 1000 // 16)

    def test_many_houses_one_behind_another(self):
        house = (OPEN, *[set_timer(which, 1, 16) for which in range(4)], *[tick(1000)] * 5)
        given = told_in_time(*house * 6)
        self.assertEqual(given, given[:10] * 6)
        self.assertEqual(given[5:10], [[252], [248], [252], [248], [252]])

    def test_many_ticks_without_anything(self):
        self.assertEqual(
            told_in_time(OPEN, *[tick(1000)] * 58, COUNTS)[1:], [[0]] * 58 + [[0, 0, 0, 0, 0, 58000, 0, 0, 0]]
        )

    def test_a_slack_that_is_as_long_as_it_may(self):
        timers = [set_timer(which, 1, 16, 65535) for which in range(4)]
        given = told_in_time(OPEN, *timers, *[tick(1000)] * 55)
        self.assertEqual(given[1:], [[65536]] * 4 + [[0]] * 55)

    def test_only_takings(self):
        timers = [set_timer(which, 16, 16) for which in range(20)]
        given = told_in_time(OPEN, *timers, tick(1000), *[NEXT] * 38)
        self.assertEqual(given[21:], [[20 * 62]] + [[0, at % 20, 16 * (at // 20 + 1)] for at in range(38)])

    def test_the_most_numbers(self):
        falls = [sleep(which % 16, 63, 0, 1, 9) for which in range(59)]
        self.assertEqual(told_in_time(OPEN, *falls), [[0]] * 17 + [[-4]] * 43)

    def test_sleeping_and_waking(self):
        falls = [sleep(which, 0) for which in range(16)]
        moves = [move(which, which + 1, 16) for which in range(30)]
        self.assertEqual(
            told_in_time(OPEN, *falls, *moves, wake(30, 16), COUNTS, word(30), hand(3))[17:],
            [[16]] * 31 + [[0, 0, 0, 16, 0, 0, 0, 0, 16], [0, 0, 0, 0], [0, 0, 0, 0]],
        )

    def test_without_a_house(self):
        self.assertEqual(told_in_time(*[tick(1000)] * 60), [[-7]] * 60)
        self.assertEqual(told_in_time(*[sleep(0, 0)] * 60), [[-7]] * 60)

    def test_whatever_stands_in_it(self):
        for far in (LOWEST, HIGHEST):
            wrong = (
                set_timer(far, far, far, far), sleep(far, far, LAST_NUMBER, far, far), store(far, LAST_NUMBER),
                add(far, 0), wake(far, far), move(far, far, far), tick(far), hand(far), word(far), [3, far], [4, far],
            )
            given = told_in_time(OPEN, *wrong * 5, COUNTS)
            self.assertEqual(given, [[0]] + [[-2]] * 55 + [[0] * 9])


if __name__ == "__main__":
    unittest.main()
