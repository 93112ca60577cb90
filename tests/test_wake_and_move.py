"""Points 8 and 9: wake, move; and the order of those asleep."""

import unittest

from tests.calls import COUNTS, HIGHEST, LOWEST, NEXT, add, hand, happened, in_house, move, set_timer, sleep, store
from tests.calls import tick, wake, word

FOUR_ASLEEP = (sleep(9, 5), sleep(2, 5), sleep(15, 5), sleep(0, 5))


def wakers(*calls):
    """Which hands woke, in order."""
    return [who for sort, who, when in happened(*calls) if sort != 0]


class Wake(unittest.TestCase):
    def test_the_first_n_in_order(self):
        for n, woken in ((0, []), (1, [9]), (2, [9, 2]), (3, [9, 2, 15]), (4, [9, 2, 15, 0])):
            self.assertEqual(in_house(*FOUR_ASLEEP, wake(5, n))[-1], [n])
            self.assertEqual(happened(*FOUR_ASLEEP, wake(5, n)), [(2, who, 0) for who in woken])

    def test_no_more_than_are_there(self):
        self.assertEqual(in_house(*FOUR_ASLEEP, wake(5, 5), wake(5, 5))[-2:], [[4], [0]])
        self.assertEqual(in_house(*FOUR_ASLEEP, wake(5, 16))[-1], [4])
        self.assertEqual(in_house(wake(5, 16), wake(5, 0)), [[0], [0]])

    def test_all_hands(self):
        falls = [sleep(which, 63) for which in reversed(range(16))]
        self.assertEqual(in_house(*falls, wake(63, 16), COUNTS)[-2:], [[16], [0, 0, 0, 16, 0, 0, 0, 0, 16]])
        self.assertEqual(wakers(*falls, wake(63, 16)), list(reversed(range(16))))
        self.assertEqual(wakers(*falls, wake(63, 15)), list(reversed(range(1, 16))))

    def test_not_those_that_watch(self):
        falls = (sleep(1, 5, 0, 1), sleep(2, 5, 0, 0), sleep(3, 5, 0, 1), sleep(4, 5, 0, 0))
        self.assertEqual(
            in_house(*falls, wake(5, 1), hand(1), hand(2), hand(3), hand(4), wake(5, 16), word(5))[4:],
            [[1], [1, 5, 1, 0], [0, 0, 0, 0], [1, 5, 1, 0], [1, 5, 0, 0], [1], [0, 0, 2, 0]],
        )

    def test_only_at_that_word(self):
        falls = (sleep(1, 0), sleep(2, 63), sleep(3, 0), sleep(4, 62), sleep(5, 1))
        self.assertEqual(in_house(*falls, wake(63, 16), wake(0, 16), wake(1, 0))[5:], [[1], [2], [0]])
        self.assertEqual(wakers(*falls, wake(63, 16), wake(0, 16)), [2, 1, 3])

    def test_the_word_stays_as_it_was(self):
        self.assertEqual(in_house(store(5, 7), sleep(1, 5, 7), wake(5, 1), word(5))[-1], [0, 7, 0, 0])

    def test_at_which_tick(self):
        self.assertEqual(happened(tick(10), sleep(1, 5), tick(7), wake(5, 1)), [(2, 1, 17)])

    def test_who_was_woken_is_not_late(self):
        self.assertEqual(
            in_house(sleep(1, 5, 0, 0, 10), tick(9), wake(5, 1), tick(1000), NEXT, NEXT),
            [[0], [0], [1], [0], [2, 1, 9], [-6]],
        )

    def test_who_sleeps_again_is_behind(self):
        self.assertEqual(
            wakers(*FOUR_ASLEEP, wake(5, 1), sleep(9, 5), wake(5, 2), wake(5, 2)), [9, 2, 15, 0, 9]
        )

    def test_sleeps_with_and_without_end_have_one_order(self):
        self.assertEqual(wakers(sleep(1, 5, 0, 0, 90), sleep(2, 5), sleep(3, 5, 0, 0, 8), wake(5, 3)), [1, 2, 3])

    def test_refused(self):
        for call in (
            wake(-1, 1), wake(64, 1), wake(LOWEST, 1), wake(HIGHEST, 1),
            wake(5, -1), wake(5, 17), wake(5, LOWEST), wake(5, HIGHEST),
        ):
            self.assertEqual(in_house(*FOUR_ASLEEP, call, word(5), COUNTS)[4:], [
                [-2], [0, 0, 0, 4], [0, 0, 0, 0, 0, 0, 0, 4, 0],
            ], call)


class Move(unittest.TestCase):
    def test_the_first_n_in_order(self):
        for n in range(5):
            self.assertEqual(
                in_house(*FOUR_ASLEEP, move(5, 6, n), word(5), word(6))[4:],
                [[n], [0, 0, 0, 4 - n], [0, 0, 0, n]],
            )
            self.assertEqual(
                wakers(*FOUR_ASLEEP, move(5, 6, n), wake(5, 16), wake(6, 16)),
                [9, 2, 15, 0][n:] + [9, 2, 15, 0][:n],
            )

    def test_no_more_than_are_there(self):
        self.assertEqual(in_house(*FOUR_ASLEEP, move(5, 6, 16), move(5, 6, 16), move(6, 5, 5))[4:], [[4], [0], [4]])
        self.assertEqual(in_house(move(5, 6, 16), move(5, 5, 16)), [[0], [0]])

    def test_first_and_last_word(self):
        self.assertEqual(
            in_house(sleep(0, 0), sleep(15, 63), move(0, 63, 1), hand(0), move(63, 0, 16), hand(0), hand(15), word(63)),
            [[0], [0], [1], [1, 63, 0, 0], [2], [1, 0, 0, 0], [1, 0, 0, 0], [0, 0, 0, 0]],
        )

    def test_all_hands(self):
        falls = [sleep(which, 63) for which in range(16)]
        self.assertEqual(in_house(*falls, move(63, 0, 16), word(63), word(0))[16:], [[16], [0, 0, 0, 0], [0, 0, 0, 16]])
        self.assertEqual(in_house(*falls, move(63, 0, 15), word(63), word(0))[16:], [[15], [0, 0, 0, 1], [0, 0, 0, 15]])

    def test_nobody_wakes(self):
        self.assertEqual(happened(*FOUR_ASLEEP, move(5, 6, 4)), [])
        self.assertEqual(in_house(*FOUR_ASLEEP, move(5, 6, 4), COUNTS)[-1], [0, 0, 0, 0, 0, 0, 0, 4, 0])

    def test_not_those_that_watch(self):
        falls = (sleep(1, 5, 0, 1), sleep(2, 5, 0, 0), sleep(3, 5, 0, 1), sleep(4, 5, 0, 0), sleep(7, 6, 0, 1))
        self.assertEqual(
            in_house(*falls, move(5, 6, 16), word(5), word(6), store(6, 1), store(5, 1))[5:],
            [[2], [0, 0, 2, 0], [0, 0, 1, 2], [1], [2]],
        )

    def test_who_is_moved_does_not_watch_there(self):
        self.assertEqual(
            in_house(sleep(1, 5), move(5, 6, 1), store(6, 1), add(6, 1), hand(1)),
            [[0], [1], [0], [0, 1], [1, 6, 0, 0]],
        )

    def test_the_words_may_be_different_numbers(self):
        self.assertEqual(
            in_house(store(6, 8), sleep(1, 5), move(5, 6, 1), word(5), word(6))[2:],
            [[1], [0, 0, 0, 0], [0, 8, 0, 1]],
        )

    def test_behind_all_that_were_there(self):
        falls = (sleep(1, 5), sleep(2, 5), sleep(3, 6), sleep(4, 6))
        self.assertEqual(wakers(*falls, move(5, 6, 1), wake(6, 16)), [3, 4, 1])
        self.assertEqual(wakers(*falls, move(5, 6, 2), wake(6, 16)), [3, 4, 1, 2])
        self.assertEqual(wakers(*falls, move(6, 5, 2), wake(5, 16)), [1, 2, 3, 4])

    def test_before_those_that_come_later(self):
        self.assertEqual(
            wakers(sleep(1, 5), sleep(2, 6), move(5, 6, 1), sleep(3, 6), sleep(4, 5), move(5, 6, 1), wake(6, 16)),
            [2, 1, 3, 4],
        )

    def test_to_the_same_word(self):
        self.assertEqual(in_house(*FOUR_ASLEEP, move(5, 5, 2), word(5))[4:], [[2], [0, 0, 0, 4]])
        for n, woken in ((0, [9, 2, 15, 0]), (1, [2, 15, 0, 9]), (2, [15, 0, 9, 2]), (4, [9, 2, 15, 0])):
            self.assertEqual(wakers(*FOUR_ASLEEP, move(5, 5, n), wake(5, 16)), woken)

    def test_there_and_back(self):
        self.assertEqual(wakers(*FOUR_ASLEEP, move(5, 6, 1), move(6, 5, 1), wake(5, 16)), [2, 15, 0, 9])
        self.assertEqual(
            wakers(*FOUR_ASLEEP, move(5, 6, 3), move(6, 7, 1), move(6, 7, 2), move(5, 7, 1), wake(7, 16)),
            [9, 2, 15, 0],
        )

    def test_it_is_late_when_it_would_have_been(self):
        self.assertEqual(
            in_house(sleep(1, 5, 0, 0, 10), tick(4), move(5, 6, 1), hand(1), tick(5), hand(1), tick(1), NEXT),
            [[0], [0], [1], [1, 6, 0, 6], [0], [1, 6, 0, 1], [1], [3, 1, 10]],
        )

    def test_who_sleeps_without_end_still_does(self):
        self.assertEqual(
            in_house(sleep(1, 5), move(5, 6, 1), tick(1000), hand(1)), [[0], [1], [0], [1, 6, 0, 0]]
        )

    def test_timers_stay_as_they_are(self):
        self.assertEqual(
            happened(set_timer(1, 10), sleep(1, 1), set_timer(2, 10), move(1, 2, 1), tick(10)), [(0, 1, 10), (0, 2, 10)]
        )

    def test_refused(self):
        for call in (
            move(-1, 6, 1), move(64, 6, 1), move(LOWEST, 6, 1), move(HIGHEST, 6, 1),
            move(5, -1, 1), move(5, 64, 1), move(5, LOWEST, 1), move(5, HIGHEST, 1),
            move(5, 6, -1), move(5, 6, 17), move(5, 6, LOWEST), move(5, 6, HIGHEST),
        ):
            self.assertEqual(in_house(*FOUR_ASLEEP, call, word(5), word(6))[4:], [
                [-2], [0, 0, 0, 4], [0, 0, 0, 0],
            ], call)
            self.assertEqual(wakers(*FOUR_ASLEEP, call, wake(5, 16)), [9, 2, 15, 0], call)


if __name__ == "__main__":
    unittest.main()
