"""Point 1, and what the interface says of answers(calls) as a whole."""

import contextlib
import io
import unittest

from sleepers import timers
from sleepers.timers import answers
from tests.calls import COUNTS, HIGHEST, LAST_NUMBER, LONGEST, LOWEST, NEXT, OPEN, add, hand, in_house, left, line
from tests.calls import move, set_timer, sleep, stop, store, tick, told, wake, word

MIXED = line(
    COUNTS, OPEN, set_timer(1, 9, 16, 7), sleep(1, 2, 0, 0, 40), sleep(3, 2), sleep(4, 2), sleep(5, 2, 0, 1), NEXT,
    move(2, 9, 1), wake(2, 1), tick(33), NEXT, NEXT, hand(1), hand(4), hand(5), word(2), word(9), tick(1001),
    tick(1000), store(2, 1), NEXT, COUNTS,
    left(3), OPEN, set_timer(3, 9, 16, 7), left(3), store(2, 8), sleep(1, 2, 8, 1), sleep(1, 2, 8), add(2, LAST_NUMBER),
    set_timer(64, 1), stop(3), sleep(9, 2, 8), OPEN, left(3), add(2, 1), sleep(LOWEST, HIGHEST, 0, 0, 0),
)


class Open(unittest.TestCase):
    def test_answers_nought(self):
        self.assertEqual(answers([1]), [1, 0])
        self.assertEqual(answers([1, 1, 1]), [1, 0, 1, 0, 1, 0])

    def test_no_timer_is_set(self):
        given = in_house(*[left(timer) for timer in range(0, 59)])
        self.assertEqual(given, [[-6]] * 59)
        self.assertEqual(in_house(*[left(timer) for timer in range(59, 64)]), [[-6]] * 5)

    def test_all_hands_are_awake(self):
        self.assertEqual(in_house(*[sleep(hand, 0) for hand in range(16)]), [[0]] * 16)

    def test_words_are_nought(self):
        self.assertEqual(in_house(*[add(word, 5) for word in range(0, 59)]), [[0, 0]] * 59)
        self.assertEqual(in_house(*[add(word, 5) for word in range(59, 64)]), [[0, 0]] * 5)

    def test_a_second_one_makes_all_new(self):
        self.assertEqual(
            in_house(
                set_timer(0, 9), set_timer(63, 9, 16), store(0, 4), store(63, 4), sleep(0, 0, 4, 1), sleep(15, 1),
                OPEN,
                left(0), left(63), stop(0), sleep(0, 0, 4), sleep(0, 0, 0), sleep(15, 1), store(0, 1), add(63, 0),
            ),
            [
                [9], [9], [0], [0], [0], [0],
                [0],
                [-6], [-6], [0], [1], [0], [0], [0], [0, 0],
            ],
        )

    def test_the_new_house_is_bare(self):
        house = timers.House()
        self.assertEqual(
            (house.now, house.timers, house.sleepers, house.words, house.happened, house.counts),
            (0, {}, {}, [0] * 64, [], [0, 0, 0, 0]),
        )

    def test_now_counts_and_what_happened_are_new(self):
        self.assertEqual(
            in_house(
                set_timer(0, 9, 16), sleep(0, 0, 0, 1), sleep(1, 1), sleep(2, 2, 0, 0, 3), sleep(3, 3), tick(900),
                store(0, 9), wake(1, 1), OPEN, COUNTS, NEXT, hand(3), word(0), tick(1), COUNTS,
            )[8:],
            [[0], [0] * 9, [-6], [0, 0, 0, 0], [0, 0, 0, 0], [0], [0, 0, 0, 0, 0, 1, 0, 0, 0]],
        )


class NoHouse(unittest.TestCase):
    def test_till_an_open(self):
        before = (
            set_timer(1, 2), stop(1), left(1), sleep(1, 2), store(1, 2), add(1, 2),
            wake(2, 1), move(2, 1, 1), tick(1), NEXT, hand(1), word(1), COUNTS,
        )
        self.assertEqual(told(*before), [[-7]] * 13)
        self.assertEqual(
            told(*before, OPEN, left(1), add(1, 0), COUNTS, sleep(1, 2)),
            [[-7]] * 13 + [[0], [-6], [0, 0], [0] * 9, [0]],
        )

    def test_before_a_wrong_number(self):
        self.assertEqual(
            told(left(64), sleep(-1, 64, 0, 2, -1), wake(64, 17), move(64, -1, 17), tick(0), hand(16), word(64)),
            [[-7]] * 7,
        )


class TheForm(unittest.TestCase):
    def test_counts_before_answers(self):
        self.assertEqual(
            answers(line(left(0), OPEN, set_timer(0, 5, 0, 3), add(1, 7), add(64, 7), add(1, 0), left(1))),
            [1, -7, 1, 0, 1, 8, 2, 0, 0, 1, -2, 2, 0, 7, 1, -6],
        )

    def test_how_many_numbers_each_call_answers(self):
        self.assertEqual(
            answers(line(
                OPEN, set_timer(9, 5), sleep(1, 2, 0, 1, 7), sleep(3, 2), wake(2, 0), move(2, 4, 1), hand(1), hand(2),
                word(2), COUNTS, tick(5), NEXT, NEXT, tick(0), hand(16), word(-1), stop(9), left(9), store(2, 1),
                add(2, 1),
            )),
            [
                1, 0, 1, 5, 1, 0, 1, 0, 1, 0, 1, 1, 4, 1, 2, 1, 7, 4, 0, 0, 0, 0,
                4, 0, 0, 1, 0, 9, 0, 0, 0, 0, 0, 0, 1, 2, 0, 1, 1, 3, 0, 9, 5, 1, -6, 1, -2, 1, -2, 1, -2,
                1, 0, 1, -6, 1, 1, 2, 0, 1,
            ],
        )

    def test_is_a_list_of_plain_whole_numbers(self):
        given = answers(list(MIXED))
        self.assertIs(type(given), list)
        for number in given:
            self.assertIs(type(number), int)

    def test_the_numbers_of_a_call_are_no_calls(self):
        self.assertEqual(in_house(set_timer(1, 1, 16, 1), store(1, 1), add(1, 1)), [[2], [0], [0, 1]])
        self.assertEqual(
            in_house(wake(14, 11), move(1, 10, 14), tick(11), hand(14), word(1), word(11), NEXT),
            [[0], [0], [0], [0, 0, 0, 0], [0, 0, 0, 0], [0, 0, 0, 0], [-6]],
        )

    def test_sixty_calls(self):
        self.assertEqual(
            in_house(*[set_timer(timer, LONGEST - timer) for timer in range(59)]),
            [[LONGEST - timer] for timer in range(59)],
        )

    def test_longer_than_calls_may_be_nested(self):
        # Not assertEqual: to show where lists of this length differ takes it minutes.
        self.assertTrue(answers([1] * 5000) == [1, 0] * 5000)


class NothingIsKept(unittest.TestCase):
    def test_the_list_stays_as_it_was(self):
        handed = list(MIXED)
        answers(handed)
        self.assertEqual(handed, MIXED)

    def test_the_list_is_not_changed_for_a_while_either(self):
        class Watched(list):
            def refuse(self, *rest):
                raise AssertionError("the list was changed")

            __setitem__ = __delitem__ = __iadd__ = __imul__ = refuse
            append = extend = insert = pop = remove = clear = sort = reverse = refuse

        self.assertEqual(answers(Watched(MIXED)), answers(list(MIXED)))

    def test_the_same_again(self):
        first = answers(list(MIXED))
        self.assertEqual(answers(list(MIXED)), first)
        handed = list(MIXED)
        self.assertEqual(answers(handed), first)
        self.assertEqual(answers(handed), first)

    def test_what_is_given_back_is_not_kept(self):
        first = answers([1, 4, 0])
        first.append(99)
        self.assertEqual(answers([1, 4, 0]), [1, 0, 1, -6])

    def test_no_house_is_left_from_before(self):
        answers([1, 2, 0, 5, 0, 0])
        self.assertEqual(answers([4, 0]), [1, -7])

    def test_two_houses_do_not_share(self):
        answers(line(OPEN, store(1, 5), sleep(1, 1, 5, 1), set_timer(1, 5), tick(9), store(1, 6)))
        self.assertEqual(in_house(COUNTS, NEXT, add(1, 0), sleep(1, 1), left(1)), [[0] * 9, [-6], [0, 0], [0], [-6]])

    def test_prints_nothing(self):
        printed = io.StringIO()
        with contextlib.redirect_stdout(printed), contextlib.redirect_stderr(printed):
            answers(list(MIXED))
        self.assertEqual(printed.getvalue(), "")


if __name__ == "__main__":
    unittest.main()
