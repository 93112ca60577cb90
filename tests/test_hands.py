"""Points 5 to 7: sleep, store, add; and what happened."""

import unittest

from sleepers.timers import House, answer_in_house
from tests.calls import LAST_NUMBER, LONGEST, OPEN, add, house_after, in_house, last, sleep, store


class Sleep(unittest.TestCase):
    def test_falls_asleep_if_the_word_is_that_number(self):
        self.assertEqual(in_house(sleep(3, 7, 0), store(8, 5), sleep(4, 8, 5)), [[0], [0], [0]])

    def test_stays_awake_if_the_word_is_another(self):
        self.assertEqual(
            in_house(sleep(3, 7, 1), sleep(3, 7, 1, 1, 9), store(7, 1), sleep(3, 7, 1)),
            [[1], [1], [0], [0]],
        )

    def test_the_word_asked_is_its_own(self):
        self.assertEqual(in_house(store(7, 5), sleep(3, 8, 5), sleep(3, 6, 5), sleep(3, 7, 5)), [[0], [1], [1], [0]])

    def test_asleep_already(self):
        for watches in (0, 1):
            self.assertEqual(
                in_house(sleep(3, 7, 0, watches), sleep(3, 7), sleep(3, 9, 0, 1, 5)),
                [[0], [-4], [-4]],
            )

    def test_asleep_comes_before_another_number(self):
        self.assertEqual(in_house(sleep(3, 7), sleep(3, 7, 1), sleep(3, 8, 1)), [[0], [-4], [-4]])

    def test_a_refused_sleep_leaves_the_first_as_it_was(self):
        self.assertEqual(
            in_house(sleep(3, 7, 0, 1), sleep(3, 8, 0, 1), store(8, 1), store(7, 1)),
            [[0], [-4], [0], [1]],
        )

    def test_who_stayed_awake_is_not_asleep(self):
        self.assertEqual(in_house(sleep(3, 7, 1, 1), store(7, 0), sleep(3, 7, 0)), [[1], [0], [0]])

    def test_edges(self):
        self.assertEqual(in_house(sleep(0, 0, 0, 0, 0), sleep(0, 0)), [[0], [-4]])
        self.assertEqual(
            in_house(store(63, LAST_NUMBER), sleep(15, 63, LAST_NUMBER, 1, LONGEST), sleep(15, 63, 0)),
            [[0], [0], [-4]],
        )
        self.assertEqual(in_house(sleep(15, 63, LAST_NUMBER), sleep(0, 0, 0, 1, 1)), [[1], [0]])

    def test_all_hands_at_one_word(self):
        falls = [sleep(hand, 63, 0, 1) for hand in range(16)]
        self.assertEqual(in_house(*falls, store(63, 0)), [[0]] * 16 + [[16]])

    def test_keeps_word_watch_and_end(self):
        house = house_after(sleep(3, 7, 0, 1, 0), sleep(4, 8, 0, 0, 40))
        house.now = 100
        answer_in_house(house, 5, [5, 9, 0, 1, 40])
        kept = [
            (hand, sleeper.word, sleeper.watches, sleeper.late_at)
            for hand, sleeper in house.sleepers.items()
        ]
        self.assertEqual(kept, [(3, 7, True, None), (4, 8, False, 40), (5, 9, True, 140)])


class Store(unittest.TestCase):
    def test_it_is_the_words(self):
        self.assertEqual(
            in_house(store(5, 77), sleep(1, 5, 0), sleep(1, 5, 77), add(5, 0), add(4, 0), add(6, 0)),
            [[0], [1], [0], [0, 77], [0, 0], [0, 0]],
        )

    def test_edges(self):
        for word in (0, 63):
            for number in (0, 1, 2 ** 31 - 1, 2 ** 31, LAST_NUMBER - 1, LAST_NUMBER):
                self.assertEqual(in_house(store(word, number), add(word, 0)), [[0], [0, number]])

    def test_wakes_all_that_watch_that_word(self):
        self.assertEqual(
            in_house(
                sleep(1, 5, 0, 1), sleep(2, 5, 0, 0), sleep(3, 5, 0, 1, 9), sleep(4, 6, 0, 1),
                store(5, 8),
                sleep(1, 5, 8), sleep(2, 5, 8), sleep(3, 5, 8), sleep(4, 5, 8),
            ),
            [[0], [0], [0], [0], [2], [0], [-4], [0], [-4]],
        )

    def test_wakes_for_the_number_that_was_there(self):
        self.assertEqual(in_house(sleep(1, 5, 0, 1), store(5, 0), store(5, 0)), [[0], [1], [0]])

    def test_who_does_not_watch_sleeps_on(self):
        self.assertEqual(in_house(sleep(1, 5, 0, 0), store(5, 1), store(5, 0), sleep(1, 5)), [[0], [0], [0], [-4]])

    def test_sleeps_again(self):
        self.assertEqual(
            in_house(sleep(1, 5, 0, 1), store(5, 3), sleep(1, 5, 3, 1), store(5, 4)),
            [[0], [1], [0], [1]],
        )


class Add(unittest.TestCase):
    def test_tells_how_many_woke_and_what_it_was(self):
        self.assertEqual(
            in_house(sleep(1, 5, 0, 1), sleep(2, 5, 0, 1), sleep(3, 5, 0), add(5, 10), add(5, 20), add(5, 0)),
            [[0], [0], [0], [2, 0], [0, 10], [0, 30]],
        )

    def test_goes_round(self):
        self.assertEqual(
            in_house(store(63, LAST_NUMBER), add(63, 1), add(63, 0)), [[0], [0, LAST_NUMBER], [0, 0]]
        )
        self.assertEqual(
            in_house(add(0, LAST_NUMBER), add(0, LAST_NUMBER), add(0, 0)),
            [[0, 0], [0, LAST_NUMBER], [0, LAST_NUMBER - 1]],
        )
        self.assertEqual(in_house(add(0, 2 ** 31), add(0, 2 ** 31), add(0, 0))[-1], [0, 0])

    def test_nought_stores_too(self):
        self.assertEqual(in_house(sleep(0, 0, 0, 1), add(0, 0), add(0, 0)), [[0], [1, 0], [0, 0]])

    def test_only_that_word(self):
        self.assertEqual(
            in_house(sleep(1, 6, 0, 1), add(5, 3), add(4, 0), add(6, 0)), [[0], [0, 0], [0, 0], [1, 0]]
        )

    def test_sleep_sees_the_sum(self):
        self.assertEqual(last(OPEN, add(5, 3), add(5, 4), sleep(1, 5, 7)), [0])


class WhatHappened(unittest.TestCase):
    def test_nothing_at_first(self):
        house = House()
        self.assertEqual((house.happened, house.counts), ([], [0, 0, 0, 0]))

    def test_falling_asleep_and_setting_are_no_happening(self):
        house = house_after(sleep(1, 5), sleep(2, 5, 1), [2, 3, 10, 16, 0], [3, 3], store(5, 1))
        self.assertEqual((house.happened, house.counts), ([], [0, 0, 0, 0]))

    def test_who_slept_first_wakes_first(self):
        house = house_after(
            sleep(9, 5, 0, 1), sleep(2, 5, 0, 1), sleep(7, 5, 0, 0), sleep(15, 5, 0, 1), sleep(0, 5, 0, 1)
        )
        house.now = 33
        self.assertEqual(answer_in_house(house, 6, [5, 1]), [4])
        self.assertEqual(house.happened, [(1, 9, 33), (1, 2, 33), (1, 15, 33), (1, 0, 33)])
        self.assertEqual(house.counts, [0, 4, 0, 0])
        self.assertEqual(list(house.sleepers), [7])

    def test_who_sleeps_again_is_behind(self):
        house = house_after(
            sleep(1, 5, 0, 1), sleep(2, 6, 0, 1), store(5, 0), sleep(1, 6, 0, 1), store(6, 0)
        )
        self.assertEqual(house.happened, [(1, 1, 0), (1, 2, 0), (1, 1, 0)])

    def test_add_wakes_as_store_does(self):
        house = house_after(sleep(4, 5, 0, 1), sleep(3, 5, 0, 1))
        house.now = 7
        self.assertEqual(answer_in_house(house, 7, [5, 0]), [2, 0])
        self.assertEqual(house.happened, [(1, 4, 7), (1, 3, 7)])
        self.assertEqual(house.counts, [0, 2, 0, 0])

    def test_counts_go_round(self):
        house = house_after(sleep(4, 5, 0, 1))
        house.counts[1] = LAST_NUMBER
        answer_in_house(house, 6, [5, 0])
        self.assertEqual(house.counts, [0, 0, 0, 0])


if __name__ == "__main__":
    unittest.main()
