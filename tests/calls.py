"""The calls as lists of numbers, and the answers parted again, call by call."""

from sleepers.timers import House, answer_in_house, answers

LOWEST = -2147483648
HIGHEST = 2147483647
LONGEST = 2 ** 24
LAST_NUMBER = 2 ** 32 - 1

OPEN = [1]
NEXT = [11]
COUNTS = [14]


def set_timer(timer, delay, period=0, slack=0):
    return [2, timer, delay, period, slack]


def stop(timer):
    return [3, timer]


def left(timer):
    return [4, timer]


def sleep(hand, word, number=0, watches=0, span=0):
    return [5, hand, word, number, watches, span]


def store(word, number):
    return [6, word, number]


def add(word, number):
    return [7, word, number]


def wake(word, n):
    return [8, word, n]


def move(word, other, n):
    return [9, word, other, n]


def tick(n):
    return [10, n]


def hand(which):
    return [12, which]


def word(which):
    return [13, which]


def line(*calls):
    return [number for call in calls for number in call]


def parted(given):
    parts = []
    at = 0
    while at < len(given):
        end = at + 1 + given[at]
        if end < at + 2 or end > len(given):
            raise AssertionError(f"a count is below 1 or runs past the end: {given}")
        parts.append(given[at + 1:end])
        at = end
    return parts


def told(*calls):
    parts = parted(answers(line(*calls)))
    if len(parts) != len(calls):
        raise AssertionError(f"{len(calls)} calls, {len(parts)} answers")
    return parts


def last(*calls):
    return told(*calls)[-1]


def in_house(*calls):
    """What is answered behind an open."""
    return told(OPEN, *calls)[1:]


def happened(*calls):
    """All that isn't taken behind an open and these calls, taken one by one."""
    waiting = in_house(*calls, COUNTS)[-1][-1]
    taken = in_house(*calls, *[NEXT] * (waiting + 1))[len(calls):]
    if taken[-1] != [-6] or [-6] in taken[:-1]:
        raise AssertionError(f"{waiting} are not taken, but {taken} came")
    return [tuple(thing) for thing in taken[:-1]]


def house_after(*calls):
    house = House()
    for call in calls:
        answer_in_house(house, call[0], call[1:])
    return house


def all_of(house):
    """All that a house keeps, its places as an order alone: how high they are is nobody's matter."""
    due = [(timer.place, 0, which) for which, timer in house.timers.items()]
    late = [(sleeper.place, 1, which) for which, sleeper in house.sleepers.items()]
    return (
        house.now,
        sorted((which, timer.due, timer.period, timer.slack) for which, timer in house.timers.items()),
        [(which, kept.word, kept.watches, kept.late_at) for which, kept in house.sleepers.items()],
        [thing[1:] for thing in sorted(due + late)],
        list(house.words),
        list(house.happened),
        list(house.counts),
    )
