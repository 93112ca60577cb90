"""Point 10, and "Ticks go by": tick, and in which order things happen."""

import itertools
import unittest

from sleepers.timers import answer_in_house
from tests.calls import COUNTS, HIGHEST, LONGEST, LOWEST, NEXT, add, all_of, hand, happened, house_after, in_house
from tests.calls import left, move, set_timer, sleep, stop, store, tick, wake

# Sixteen timers that happen 62 times in 1000 ticks, and 64 times in 1024.
SIXTEEN = [set_timer(which, 16, 16) for which in range(16)]


class Tick(unittest.TestCase):
    def test_now_is_so_much_more(self):
        self.assertEqual(in_house(tick(1), COUNTS), [[0], [0, 0, 0, 0, 0, 1, 0, 0, 0]])
        self.assertEqual(in_house(tick(1000), tick(999), COUNTS)[-1], [0, 0, 0, 0, 0, 1999, 0, 0, 0])

    def test_timers_and_hands_come_nearer(self):
        self.assertEqual(
            in_house(set_timer(1, 50), sleep(1, 1, 0, 0, 60), tick(20), left(1), hand(1)),
            [[50], [0], [0], [30], [1, 1, 0, 40]],
        )

    def test_sets_from_now(self):
        self.assertEqual(in_house(tick(99), set_timer(3, 5, 0, 3), set_timer(4, 8, 0, 5)), [[0], [5], [13]])

    def test_not_early_and_not_late(self):
        for n in (1, 2, 999, 1000):
            self.assertEqual(
                in_house(set_timer(1, n), sleep(1, 1, 0, 0, n), *[tick(n - 1)] * (n > 1), COUNTS)[-1],
                [0, 0, 0, 0, 0, n - 1, 1, 1, 0],
            )
            self.assertEqual(in_house(set_timer(1, n), sleep(1, 1, 0, 0, n), tick(n))[-1], [2])
            self.assertEqual(happened(set_timer(1, n), sleep(1, 1, 0, 0, n), tick(1000)), [(0, 1, n), (3, 1, n)])
            self.assertEqual(in_house(set_timer(1, n + 1), sleep(1, 1, 0, 0, n + 1), tick(n))[-1], [0])

    def test_far_off(self):
        self.assertEqual(
            in_house(set_timer(1, LONGEST), sleep(1, 1, 0, 0, LONGEST), tick(1000), left(1), hand(1))[2:],
            [[0], [LONGEST - 1000], [1, 1, 0, LONGEST - 1000]],
        )

    def test_how_many_things_happened(self):
        self.assertEqual(
            in_house(
                set_timer(1, 3), set_timer(2, 16, 16), sleep(1, 1, 0, 1, 5), tick(2), tick(1), tick(30), tick(1000)
            )[3:],
            [[0], [1], [3], [62]],
        )

    def test_only_what_happened_by_this_tick(self):
        self.assertEqual(
            in_house(sleep(1, 1, 0, 1), sleep(2, 2), store(1, 1), wake(2, 1), set_timer(1, 1), tick(1))[-1], [1]
        )

    def test_a_timer_without_a_period_is_not_set_any_more(self):
        self.assertEqual(
            in_house(set_timer(1, 3), tick(3), left(1), stop(1), tick(1000), COUNTS)[2:],
            [[-6], [0], [0], [0, 1, 0, 0, 0, 1003, 0, 0, 1]],
        )

    def test_who_is_late_is_awake(self):
        for watches in (0, 1):
            self.assertEqual(
                in_house(sleep(1, 1, 0, watches, 3), tick(3), hand(1), store(1, 0), wake(1, 16), sleep(1, 1))[2:],
                [[0, 0, 0, 0], [0], [0], [0]],
            )

    def test_who_woke_is_not_late(self):
        self.assertEqual(happened(sleep(1, 1, 0, 1, 3), store(1, 0), tick(9)), [(1, 1, 0)])
        self.assertEqual(happened(sleep(1, 1, 0, 1, 3), tick(2), add(1, 0), tick(9)), [(1, 1, 2)])

    def test_who_sleeps_again_has_a_new_end(self):
        self.assertEqual(
            happened(sleep(1, 1, 0, 1, 3), tick(1), store(1, 0), sleep(1, 1, 0, 0, 9), tick(20)),
            [(1, 1, 1), (3, 1, 10)],
        )
        self.assertEqual(
            happened(sleep(1, 1, 0, 0, 3), tick(2), wake(1, 1), sleep(1, 1), tick(20)), [(2, 1, 2)]
        )

    def test_wrong_numbers(self):
        for n in (0, -1, 1001, LOWEST, HIGHEST):
            self.assertEqual(
                in_house(set_timer(1, 1), tick(n), COUNTS), [[1], [-2], [0, 0, 0, 0, 0, 0, 1, 0, 0]], n
            )


class TheLastTick(unittest.TestCase):
    def test_up_to_it(self):
        for before in (1, 2, 999, 1000):
            house = house_after(set_timer(1, LONGEST))
            house.now = 2 ** 30 - before
            self.assertEqual(answer_in_house(house, 10, [before]), [1])
            self.assertEqual(house.now, 2 ** 30)

    def test_not_beyond_it(self):
        for before in (0, 1, 2, 998, 999):
            house = house_after(set_timer(1, LONGEST))
            house.now = 2 ** 30 - before
            was = all_of(house)
            self.assertEqual(answer_in_house(house, 10, [before + 1]), [-2])
            self.assertEqual(answer_in_house(house, 10, [1000]), [-2])
            self.assertEqual(all_of(house), was)

    def test_other_calls_still_stand(self):
        house = house_after()
        house.now = 2 ** 30
        self.assertEqual(answer_in_house(house, 2, [1, LONGEST, 0, 65535]), [LONGEST])
        self.assertEqual(answer_in_house(house, 5, [1, 1, 0, 0, LONGEST]), [0])
        self.assertEqual(answer_in_house(house, 12, [1]), [1, 1, 0, LONGEST])


class TooManyNotTaken(unittest.TestCase):
    def test_with_1024_ticks_go_by(self):
        self.assertEqual(
            in_house(*SIXTEEN, tick(1000), tick(24), tick(1), COUNTS)[16:],
            [[992], [32], [0], [0, 1024, 0, 0, 0, 1025, 16, 0, 1024]],
        )

    def test_with_1025_they_do_not(self):
        self.assertEqual(
            in_house(*SIXTEEN, set_timer(16, 1025), tick(1000), tick(24), tick(1), tick(1), tick(1000), COUNTS)[17:],
            [[992], [32], [1], [-5], [-5], [0, 1025, 0, 0, 0, 1025, 16, 0, 1025]],
        )

    def test_one_that_is_taken_is_enough(self):
        self.assertEqual(
            in_house(*SIXTEEN, set_timer(16, 1025), tick(1000), tick(24), tick(1), NEXT, tick(15), tick(1))[20:],
            [[0, 0, 16], [16], [-5]],
        )

    def test_what_is_taken_early_counts_no_more(self):
        self.assertEqual(
            in_house(*SIXTEEN, set_timer(16, 1025), tick(1000), NEXT, NEXT, tick(24), tick(1), tick(1))[20:],
            [[32], [1], [0]],
        )

    def test_hands_that_woke_count_too(self):
        self.assertEqual(
            in_house(
                *SIXTEEN, sleep(1, 1, 0, 1), sleep(2, 1), tick(1000), tick(24), store(1, 0), tick(1), NEXT, tick(1)
            )[18:],
            [[992], [32], [1], [-5], [0, 0, 16], [0]],
        )
        self.assertEqual(
            in_house(*SIXTEEN, sleep(2, 1), tick(1000), tick(24), wake(1, 1), tick(1))[17:], [[992], [32], [1], [-5]]
        )

    def test_one_tick_may_bring_more(self):
        timers = [set_timer(which, 16, 16) for which in range(56)]
        self.assertEqual(in_house(*timers, tick(1000), tick(1), COUNTS)[56:], [
            [56 * 62], [-5], [0, 56 * 62, 0, 0, 0, 1000, 56, 0, 56 * 62],
        ])

    def test_other_calls_still_stand(self):
        self.assertEqual(
            in_house(
                *SIXTEEN, sleep(1, 1), sleep(2, 1), tick(1000), tick(24), wake(1, 1), tick(1),
                wake(1, 1), set_timer(0, 5), sleep(1, 1, 0, 1), add(1, 1), tick(1),
            )[21:],
            [[-5], [1], [5], [0], [1, 0], [-5]],
        )


class Periods(unittest.TestCase):
    def test_shortest(self):
        self.assertEqual(happened(set_timer(63, 1, 16), tick(40)), [(0, 63, 1), (0, 63, 17), (0, 63, 33)])

    def test_longest(self):
        self.assertEqual(in_house(set_timer(1, 5, LONGEST), tick(6), left(1)), [[5], [1], [LONGEST - 1]])

    def test_from_the_tick_at_which_it_was_due(self):
        self.assertEqual(in_house(set_timer(1, 5, 100), tick(60), left(1)), [[5], [1], [45]])
        self.assertEqual(
            happened(set_timer(1, 5, 100), tick(60), tick(60), tick(1000))[:4],
            [(0, 1, 5), (0, 1, 105), (0, 1, 205), (0, 1, 305)],
        )

    def test_moved_by_its_slack_each_time(self):
        # 10 to 13: 12. 32 to 35: 32. 52 to 55: 52. 72 to 75: 72. 92 to 95: 92. 112 to 115: 112.
        self.assertEqual(
            [when for sort, who, when in happened(set_timer(1, 10, 20, 3), tick(112))], [12, 32, 52, 72, 92, 112]
        )
        # 17 to 48: 32. 49 to 80: 64. 81 to 112: 96. 113 to 144: 128.
        self.assertEqual(
            [when for sort, who, when in happened(set_timer(1, 17, 17, 31), tick(159))], [32, 64, 96, 128]
        )
        self.assertEqual(in_house(set_timer(1, 17, 17, 31), tick(130), left(1)), [[32], [4], [30]])

    def test_the_delay_is_only_the_first(self):
        self.assertEqual(
            [when for sort, who, when in happened(set_timer(1, 100, 30), tick(170))], [100, 130, 160]
        )

    def test_set_anew_without_a_period(self):
        self.assertEqual(
            happened(set_timer(1, 5, 16), tick(6), set_timer(1, 5), tick(500)), [(0, 1, 5), (0, 1, 11)]
        )

    def test_set_anew_with_a_period(self):
        self.assertEqual(
            happened(set_timer(1, 5), set_timer(1, 6, 200), tick(300)), [(0, 1, 6), (0, 1, 206)]
        )

    def test_stopped_between(self):
        self.assertEqual(happened(set_timer(1, 5, 16), tick(30), stop(1), tick(500)), [(0, 1, 5), (0, 1, 21)])


class TheOrder(unittest.TestCase):
    def test_what_is_due_earlier_first(self):
        self.assertEqual(
            happened(set_timer(1, 30), sleep(2, 1, 0, 0, 20), set_timer(3, 10), sleep(4, 1, 0, 1, 5), tick(30)),
            [(3, 4, 5), (0, 3, 10), (3, 2, 20), (0, 1, 30)],
        )

    def test_at_the_same_tick_what_was_set_or_fell_asleep_earlier(self):
        due = {
            (0, 5, 40): set_timer(5, 40), (3, 5, 40): sleep(5, 9, 0, 0, 40), (0, 0, 40): set_timer(0, 33, 0, 7),
            (3, 0, 40): sleep(0, 3, 0, 1, 40), (0, 63, 40): set_timer(63, 40, 16),
        }
        for order in itertools.permutations(due):
            self.assertEqual(happened(*[due[thing] for thing in order], tick(40)), list(order))

    def test_set_at_different_ticks(self):
        self.assertEqual(
            happened(
                set_timer(9, 40), tick(10), sleep(9, 1, 0, 0, 30), tick(10), set_timer(2, 20), sleep(2, 1, 0, 0, 20),
                tick(20),
            ),
            [(0, 9, 40), (3, 9, 40), (0, 2, 40), (3, 2, 40)],
        )

    def test_set_again_comes_behind_what_was_set_before(self):
        # Timer 1 is set again at tick 16: behind timer 2 and hand 3, and before timer 4.
        self.assertEqual(
            happened(
                set_timer(1, 16, 16), set_timer(2, 32), tick(10), sleep(3, 1, 0, 0, 22), tick(10), set_timer(4, 12),
                tick(20),
            ),
            [(0, 1, 16), (0, 2, 32), (3, 3, 32), (0, 1, 32), (0, 4, 32)],
        )

    def test_set_again_within_the_same_call(self):
        self.assertEqual(
            happened(set_timer(1, 16, 16), set_timer(2, 32), sleep(3, 1, 0, 0, 32), tick(32)),
            [(0, 1, 16), (0, 2, 32), (3, 3, 32), (0, 1, 32)],
        )

    def test_two_that_are_set_again_keep_their_order(self):
        self.assertEqual(
            happened(set_timer(7, 16, 16), set_timer(3, 16, 16), tick(48)),
            [(0, 7, 16), (0, 3, 16), (0, 7, 32), (0, 3, 32), (0, 7, 48), (0, 3, 48)],
        )

    def test_who_was_set_again_last_is_last(self):
        # At tick 48 timer 1 was set again at 32, timer 2 at 24, and timer 3 at the beginning.
        self.assertEqual(
            [thing for thing in happened(set_timer(1, 16, 16), set_timer(2, 24, 24), set_timer(3, 48), tick(48))
             if thing[2] == 48],
            [(0, 3, 48), (0, 2, 48), (0, 1, 48)],
        )

    def test_set_anew_comes_behind(self):
        self.assertEqual(
            happened(set_timer(1, 20), set_timer(2, 20), sleep(3, 1, 0, 0, 20), set_timer(1, 20), tick(20)),
            [(0, 2, 20), (3, 3, 20), (0, 1, 20)],
        )
        self.assertEqual(
            happened(set_timer(1, 20), set_timer(2, 20), tick(5), stop(1), set_timer(1, 15), tick(20)),
            [(0, 2, 20), (0, 1, 20)],
        )

    def test_set_anew_happens_only_then(self):
        self.assertEqual(happened(set_timer(1, 20), set_timer(1, 10), tick(50)), [(0, 1, 10)])
        self.assertEqual(happened(set_timer(1, 10), tick(9), set_timer(1, 20), tick(50)), [(0, 1, 29)])

    def test_stopped_does_not_happen(self):
        self.assertEqual(
            happened(set_timer(1, 20), set_timer(2, 20), set_timer(3, 20, 16), tick(19), stop(1), stop(3), tick(50)),
            [(0, 2, 20)],
        )

    def test_who_slept_again_comes_behind(self):
        self.assertEqual(
            happened(sleep(1, 1, 0, 1, 20), sleep(2, 1, 0, 0, 20), store(1, 0), sleep(1, 1, 0, 1, 20), tick(20)),
            [(1, 1, 0), (3, 2, 20), (3, 1, 20)],
        )

    def test_a_sleep_that_was_refused_does_not_come_behind(self):
        self.assertEqual(
            happened(sleep(1, 1, 0, 0, 20), sleep(2, 1, 0, 0, 20), set_timer(1, 20), sleep(1, 1, 0, 0, 20), tick(20)),
            [(3, 1, 20), (3, 2, 20), (0, 1, 20)],
        )
        self.assertEqual(
            happened(set_timer(1, 20), set_timer(2, 20), set_timer(1, 20, 15), tick(20)), [(0, 1, 20), (0, 2, 20)]
        )

    def test_who_was_moved_fell_asleep_when_it_did(self):
        # Moved, it's behind all of those asleep; but at one tick it counts who fell asleep earlier.
        falls = (sleep(1, 1, 0, 0, 20), sleep(2, 1, 0, 0, 20), set_timer(3, 20))
        for other in (1, 2):
            self.assertEqual(happened(*falls, move(1, other, 1), tick(20)), [(3, 1, 20), (3, 2, 20), (0, 3, 20)])
        self.assertEqual(
            happened(*falls, tick(5), move(1, 2, 2), move(2, 1, 1), tick(15)), [(3, 1, 20), (3, 2, 20), (0, 3, 20)]
        )
        self.assertEqual(happened(*falls, move(1, 1, 1), wake(1, 2)), [(2, 2, 0), (2, 1, 0)])

    def test_behind_an_open_the_order_is_new(self):
        self.assertEqual(
            happened(set_timer(1, 5), set_timer(2, 5), [1], set_timer(2, 5), set_timer(1, 5), tick(5)),
            [(0, 2, 5), (0, 1, 5)],
        )


if __name__ == "__main__":
    unittest.main()
