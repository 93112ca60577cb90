"""The calls as lists of numbers, and the answers parted again, call by call."""

from sleepers.timers import answers

LOWEST = -2147483648
HIGHEST = 2147483647
LONGEST = 2 ** 24
LAST_NUMBER = 2 ** 32 - 1

OPEN = [1]


def set_timer(timer, delay, period=0, slack=0):
    return [2, timer, delay, period, slack]


def stop(timer):
    return [3, timer]


def left(timer):
    return [4, timer]


def sleep(hand, word, number=0, watches=0, span=0):
    return [5, hand, word, number, watches, span]


def store(word, number):
    return [6, word, number]


def add(word, number):
    return [7, word, number]


def line(*calls):
    return [number for call in calls for number in call]


def parted(given):
    parts = []
    at = 0
    while at < len(given):
        end = at + 1 + given[at]
        if end < at + 2 or end > len(given):
            raise AssertionError(f"a count is below 1 or runs past the end: {given}")
        parts.append(given[at + 1:end])
        at = end
    return parts


def told(*calls):
    parts = parted(answers(line(*calls)))
    if len(parts) != len(calls):
        raise AssertionError(f"{len(calls)} calls, {len(parts)} answers")
    return parts


def last(*calls):
    return told(*calls)[-1]


def in_house(*calls):
    """What is answered behind an open."""
    return told(OPEN, *calls)[1:]
