"""-2 for each number of each call, which refusal comes first, and that none changes anything."""

import unittest

from sleepers.timers import answer_in_house
from tests.calls import COUNTS, HIGHEST, LAST_NUMBER, LONGEST, LOWEST, NEXT, OPEN, add, all_of, hand, house_after
from tests.calls import in_house, last, left, move, set_timer, sleep, stop, store, tick, told, wake, word

FAR = (LOWEST, HIGHEST)
UP_TO_63 = ((0, 1, 62, 63), (-1, 64) + FAR)
UP_TO_15 = ((0, 1, 14, 15), (-1, 16, 63) + FAR)
UP_TO_16 = ((0, 1, 15, 16), (-1, 17, 63) + FAR)
CONTENT = ((0, 1, HIGHEST, LAST_NUMBER), (-1, LAST_NUMBER + 1, LOWEST))

# A call that is as told; of each of its numbers those that are as told, and those that aren't.
CASES = (
    (set_timer(1, 20, 30, 40), (
        UP_TO_63,
        ((1, 2, LONGEST - 1, LONGEST), (0, -1, LONGEST + 1) + FAR),
        ((0, 16, 17, LONGEST - 1, LONGEST), (-1, 1, 8, 15, LONGEST + 1) + FAR),
        ((0, 1, 65534, 65535), (-1, 65536) + FAR),
    )),
    (stop(1), (UP_TO_63,)),
    (left(1), (UP_TO_63,)),
    (sleep(1, 2, 0, 1, 3), (
        UP_TO_15,
        UP_TO_63,
        CONTENT,
        ((0, 1), (-1, 2) + FAR),
        ((0, 1, LONGEST - 1, LONGEST), (-1, LONGEST + 1) + FAR),
    )),
    (store(1, 2), (UP_TO_63, CONTENT)),
    (add(1, 2), (UP_TO_63, CONTENT)),
    (wake(1, 2), (UP_TO_63, UP_TO_16)),
    (move(1, 2, 3), (UP_TO_63, UP_TO_63, UP_TO_16)),
    (tick(5), (((1, 2, 999, 1000), (0, -1, 1001) + FAR),)),
    (hand(1), (UP_TO_15,)),
    (word(1), (UP_TO_63,)),
)
WITHOUT_NUMBERS = (NEXT, COUNTS)


def each_number(which):
    for call, numbers in CASES:
        for place, choices in enumerate(numbers, start=1):
            for number in choices[which]:
                yield call[:place] + [number] + call[place + 1:]


LIVED = (
    set_timer(0, 10, 16, 3), set_timer(1, 30), set_timer(63, 50, 0, 7), set_timer(2, 5), stop(2),
    store(0, 9), store(63, LAST_NUMBER), sleep(4, 5, 0, 1), store(5, 6), sleep(1, 1, 0, 1, 8),
    tick(4), sleep(7, 1), sleep(0, 1, 0, 0, 9), sleep(15, 63, LAST_NUMBER, 1, 0), sleep(8, 1), move(1, 2, 1),
    sleep(9, 2), wake(2, 1), set_timer(5, 900),
)


def lived_in_house():
    return house_after(*LIVED)


class WrongNumbers(unittest.TestCase):
    def test_are_refused(self):
        for call in each_number(1):
            self.assertEqual(last(OPEN, call), [-2], call)

    def test_at_the_edge_are_taken(self):
        for call in each_number(0):
            self.assertNotEqual(last(OPEN, call), [-2], call)

    def test_several_at_once(self):
        for call, numbers in CASES:
            for far in FAR:
                self.assertEqual(last(OPEN, call[:1] + [far] * len(numbers)), [-2], call)


class WhichRefusal(unittest.TestCase):
    def test_no_house_before_all_else(self):
        for call, numbers in CASES:
            self.assertEqual(told(call), [[-7]], call)
        for call in WITHOUT_NUMBERS:
            self.assertEqual(told(call), [[-7]], call)
        for call in each_number(1):
            self.assertEqual(told(call), [[-7]], call)
        for call in each_number(0):
            self.assertEqual(told(call), [[-7]], call)

    def test_wrong_number_before_asleep(self):
        self.assertEqual(
            in_house(
                sleep(3, 7), sleep(3, 64), sleep(3, 7, 0, 2), sleep(3, 7, 0, 0, -1), sleep(3, 7, 0, 0, LONGEST + 1),
                sleep(3, 7),
            ),
            [[0], [-2], [-2], [-2], [-2], [-4]],
        )

    def test_wrong_number_before_another_content(self):
        self.assertEqual(
            in_house(sleep(3, 7, 1, 2), sleep(3, 7, 1, 0, -1), sleep(16, 7, 1), sleep(3, 7, 1)),
            [[-2], [-2], [-2], [1]],
        )

    def test_wrong_number_before_not_set(self):
        self.assertEqual(in_house(left(64), left(-1), left(63)), [[-2], [-2], [-6]])

    def test_wrong_number_before_too_many_not_taken(self):
        house = lived_in_house()
        house.happened.extend([(0, 0, 1)] * 1025)
        for n in (0, -1, 1001) + FAR:
            self.assertEqual(answer_in_house(house, 10, [n]), [-2], n)
        self.assertEqual(answer_in_house(house, 10, [1]), [-5])

    def test_too_late_before_too_many_not_taken(self):
        house = lived_in_house()
        house.happened.extend([(0, 0, 1)] * 1025)
        house.now = 2 ** 30 - 7
        self.assertEqual(answer_in_house(house, 10, [8]), [-2])
        self.assertEqual(answer_in_house(house, 10, [7]), [-5])


class NothingChanges(unittest.TestCase):
    def test_by_a_wrong_number(self):
        before = all_of(lived_in_house())
        for call in each_number(1):
            house = lived_in_house()
            self.assertEqual(answer_in_house(house, call[0], call[1:]), [-2], call)
            self.assertEqual(all_of(house), before, call)

    def test_by_another_refusal_or_staying_awake(self):
        before = all_of(lived_in_house())
        for call, answer in (
            (left(2), -6), (left(62), -6), (stop(2), 0), (sleep(1, 2, 0), -4), (sleep(0, 1, 1, 1, 1), -4),
            (sleep(15, 0, 9, 0, 0), -4), (sleep(2, 0, 8), 1), (sleep(2, 63, 0, 1, 5), 1), (left(1), 26),
            (wake(1, 0), 0), (wake(0, 16), 0), (wake(63, 16), 0), (move(1, 2, 0), 0), (move(63, 1, 16), 0),
        ):
            house = lived_in_house()
            self.assertEqual(answer_in_house(house, call[0], call[1:]), [answer], call)
            self.assertEqual(all_of(house), before, call)

    def test_by_asking(self):
        before = all_of(lived_in_house())
        for call in (left(0), hand(0), hand(3), hand(15), word(1), word(2), word(63), COUNTS):
            house = lived_in_house()
            answer_in_house(house, call[0], call[1:])
            self.assertEqual(all_of(house), before, call)

    def test_by_a_next_that_finds_none(self):
        house = house_after(set_timer(0, 10, 16), sleep(1, 1, 0, 0, 9), store(2, 3))
        before = all_of(house)
        for _ in range(3):
            self.assertEqual(answer_in_house(house, 11, []), [-6])
        self.assertEqual(all_of(house), before)

    def test_by_a_tick_that_is_refused(self):
        for far, many, n, answer in (
            (2 ** 30 - 7, 0, 8, -2), (2 ** 30, 0, 1, -2), (2 ** 30 - 999, 0, 1000, -2),
            (4, 1025, 1, -5), (4, 1025, 1000, -5), (4, 5000, 1000, -5),
        ):
            house = lived_in_house()
            house.now = far
            house.happened.extend([(0, 0, 1)] * (many - len(house.happened)))
            before = all_of(house)
            self.assertEqual(answer_in_house(house, 10, [n]), [answer], (far, many, n))
            self.assertEqual(all_of(house), before, (far, many, n))

    def test_as_later_calls_see_it(self):
        first = (set_timer(1, 20, 16, 3), store(1, 6), sleep(1, 1, 6, 1), sleep(2, 2, 0, 0, 8))
        behind = (
            left(0), left(1), left(63), sleep(0, 1, 5), sleep(1, 1, 5), sleep(2, 1, 5), sleep(15, 1, 5),
            tick(8), NEXT, NEXT, hand(1), hand(2), word(1), word(2), COUNTS, tick(500), NEXT, NEXT, COUNTS,
            add(0, 0), add(1, 0), add(2, 0), add(63, 0), stop(1), sleep(1, 1, 6), sleep(2, 2),
        )
        expected = in_house(*first, *behind)[len(first):]
        for call in each_number(1):
            given = in_house(*first, call, *behind)
            self.assertEqual(given[len(first)], [-2], call)
            self.assertEqual(given[len(first) + 1:], expected, call)


if __name__ == "__main__":
    unittest.main()
