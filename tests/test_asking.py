"""Points 11 to 14: next, hand, word, counts."""

import unittest

from sleepers.timers import answer_in_house
from tests.calls import COUNTS, HIGHEST, LAST_NUMBER, LONGEST, LOWEST, NEXT, OPEN, add, hand, house_after, in_house
from tests.calls import left, move, set_timer, sleep, stop, store, tick, wake, word


class Next(unittest.TestCase):
    def test_none(self):
        self.assertEqual(in_house(NEXT, NEXT), [[-6], [-6]])
        self.assertEqual(in_house(set_timer(1, 5), sleep(1, 1, 0, 0, 5), tick(4), NEXT)[-1], [-6])

    def test_each_sort(self):
        self.assertEqual(
            in_house(
                set_timer(63, 5), sleep(15, 1, 0, 1), sleep(14, 1), sleep(0, 1, 0, 0, 7),
                tick(2), store(1, 0), tick(1), wake(1, 1), tick(50), NEXT, NEXT, NEXT, NEXT, NEXT,
            )[4:],
            [[0], [1], [0], [1], [2], [1, 15, 2], [2, 14, 3], [0, 63, 5], [3, 0, 7], [-6]],
        )

    def test_is_taken_once(self):
        self.assertEqual(
            in_house(set_timer(0, 1), set_timer(1, 2), tick(2), NEXT, COUNTS, NEXT, COUNTS, NEXT, COUNTS)[3:],
            [
                [0, 0, 1], [0, 2, 0, 0, 0, 2, 0, 0, 1],
                [0, 1, 2], [0, 2, 0, 0, 0, 2, 0, 0, 0],
                [-6], [0, 2, 0, 0, 0, 2, 0, 0, 0],
            ],
        )

    def test_what_happens_later_is_behind(self):
        self.assertEqual(
            in_house(
                sleep(1, 1, 0, 1), sleep(2, 2), sleep(3, 3, 0, 1), store(1, 1), wake(2, 1), NEXT, add(3, 1),
                NEXT, NEXT, NEXT,
            )[5:],
            [[1, 1, 0], [1, 0], [2, 2, 0], [1, 3, 0], [-6]],
        )

    def test_takes_no_time(self):
        self.assertEqual(in_house(set_timer(0, 5), sleep(1, 1, 0, 1), store(1, 1), NEXT, left(0))[-1], [5])

    def test_open_forgets_what_happened(self):
        self.assertEqual(in_house(set_timer(0, 1), tick(1), OPEN, NEXT), [[1], [1], [0], [-6]])


class Hand(unittest.TestCase):
    def test_awake(self):
        self.assertEqual(in_house(*[hand(which) for which in range(16)]), [[0, 0, 0, 0]] * 16)

    def test_asleep(self):
        self.assertEqual(
            in_house(
                store(63, 9), sleep(0, 63, 9, 1, 0), sleep(15, 0, 0, 0, LONGEST), sleep(7, 1, 0, 1, 1), sleep(8, 63, 9),
                hand(0), hand(15), hand(7), hand(8), hand(1),
            )[5:],
            [[1, 63, 1, 0], [1, 0, 0, LONGEST], [1, 1, 1, 1], [1, 63, 0, 0], [0, 0, 0, 0]],
        )

    def test_till_it_is_late(self):
        self.assertEqual(
            in_house(
                tick(100), sleep(3, 4, 0, 1, 20), hand(3), tick(1), hand(3), tick(18), hand(3), tick(1), hand(3)
            )[2:],
            [[1, 4, 1, 20], [0], [1, 4, 1, 19], [0], [1, 4, 1, 1], [1], [0, 0, 0, 0]],
        )

    def test_without_end_stays_without_end(self):
        self.assertEqual(in_house(sleep(3, 4), tick(1000), hand(3))[-1], [1, 4, 0, 0])

    def test_awake_again(self):
        self.assertEqual(in_house(sleep(3, 4, 0, 1, 9), store(4, 0), hand(3))[-1], [0, 0, 0, 0])
        self.assertEqual(in_house(sleep(3, 4, 0, 0, 9), wake(4, 1), hand(3))[-1], [0, 0, 0, 0])
        self.assertEqual(in_house(sleep(3, 4, 1, 0, 9), hand(3))[-1], [0, 0, 0, 0])

    def test_refused(self):
        for which in (-1, 16, 63, LOWEST, HIGHEST):
            self.assertEqual(in_house(hand(which)), [[-2]])


class Word(unittest.TestCase):
    def test_its_number(self):
        self.assertEqual(
            in_house(word(0), word(63), store(0, LAST_NUMBER), add(63, 7), word(0), word(63), word(1), word(62)),
            [
                [0, 0, 0, 0], [0, 0, 0, 0], [0], [0, 0],
                [0, LAST_NUMBER, 0, 0], [0, 7, 0, 0], [0, 0, 0, 0], [0, 0, 0, 0],
            ],
        )

    def test_who_is_there(self):
        falls = (
            sleep(0, 5, 0, 1), sleep(1, 5, 0, 1, 9), sleep(2, 5, 0, 0, 9), sleep(3, 5, 0, 1),
            sleep(4, 6, 0, 0), sleep(5, 6, 0, 0, 3), sleep(6, 7, 0, 1),
        )
        self.assertEqual(
            in_house(*falls, word(5), word(6), word(7), word(4))[7:],
            [[0, 0, 3, 1], [0, 0, 0, 2], [0, 0, 1, 0], [0, 0, 0, 0]],
        )

    def test_behind_each_change(self):
        self.assertEqual(
            in_house(
                sleep(0, 5, 0, 1), sleep(1, 5), sleep(2, 5), sleep(3, 5, 0, 0, 4), word(5), wake(5, 1), word(5),
                move(5, 6, 1), word(5), word(6), tick(4), word(5), store(5, 3), word(5), word(6),
            )[4:],
            [
                [0, 0, 1, 3], [1], [0, 0, 1, 2],
                [1], [0, 0, 1, 1], [0, 0, 0, 1], [1], [0, 0, 1, 0], [1], [0, 3, 0, 0], [0, 0, 0, 1],
            ],
        )

    def test_refused(self):
        for which in (-1, 64, LOWEST, HIGHEST):
            self.assertEqual(in_house(word(which)), [[-2]])


class Counts(unittest.TestCase):
    def test_nothing_at_first(self):
        self.assertEqual(in_house(COUNTS), [[0] * 9])

    def test_each_sort_of_happening(self):
        self.assertEqual(
            in_house(
                set_timer(1, 2, 16), set_timer(2, 3), sleep(1, 1, 0, 1), sleep(2, 1, 0, 1), sleep(3, 1, 0, 1),
                sleep(4, 2), sleep(5, 2), sleep(6, 2), sleep(7, 2), sleep(8, 3, 0, 0, 1), COUNTS,
                store(1, 1), COUNTS, wake(2, 3), COUNTS, tick(1), COUNTS, tick(1), COUNTS, tick(1), COUNTS,
            )[10:],
            [
                [0, 0, 0, 0, 0, 0, 2, 8, 0],
                [3], [0, 0, 3, 0, 0, 0, 2, 5, 3],
                [3], [0, 0, 3, 3, 0, 0, 2, 2, 6],
                [1], [0, 0, 3, 3, 1, 1, 2, 1, 7],
                [1], [0, 1, 3, 3, 1, 2, 2, 1, 8],
                [1], [0, 2, 3, 3, 1, 3, 1, 1, 9],
            ],
        )

    def test_timers_that_are_set(self):
        self.assertEqual(
            in_house(
                set_timer(0, 9), set_timer(63, 9, 16), COUNTS, set_timer(0, 8), COUNTS, stop(63), COUNTS,
                tick(8), COUNTS,
            )[2:],
            [
                [0, 0, 0, 0, 0, 0, 2, 0, 0], [8],
                [0, 0, 0, 0, 0, 0, 2, 0, 0], [1],
                [0, 0, 0, 0, 0, 0, 1, 0, 0], [1],
                [0, 1, 0, 0, 0, 8, 0, 0, 1],
            ],
        )

    def test_what_was_taken_still_counts(self):
        self.assertEqual(
            in_house(set_timer(0, 1), set_timer(1, 1), tick(1), NEXT, NEXT, COUNTS)[-1], [0, 2, 0, 0, 0, 1, 0, 0, 0]
        )

    def test_all_that_can_be_set_or_asleep(self):
        house = house_after(
            *[set_timer(which, 9) for which in range(64)], *[sleep(which, which) for which in range(16)]
        )
        self.assertEqual(answer_in_house(house, 14, []), [0, 0, 0, 0, 0, 0, 64, 16, 0])

    def test_go_round(self):
        house = house_after(
            set_timer(1, 1), sleep(1, 1, 0, 1), sleep(2, 2), sleep(3, 3, 0, 0, 1), sleep(4, 4, 0, 0, 1)
        )
        house.counts = [LAST_NUMBER, LAST_NUMBER, LAST_NUMBER, LAST_NUMBER]
        for call in (store(1, 1), wake(2, 1), tick(1)):
            answer_in_house(house, call[0], call[1:])
        self.assertEqual(answer_in_house(house, 14, []), [0, 0, 0, 0, 1, 1, 0, 0, 5])

    def test_what_is_given_back_is_not_the_house_own(self):
        house = house_after(set_timer(1, 1))
        answer_in_house(house, 14, []).clear()
        self.assertEqual(answer_in_house(house, 14, []), [0, 0, 0, 0, 0, 0, 1, 0, 0])


if __name__ == "__main__":
    unittest.main()
