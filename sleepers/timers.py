"""Timers that may be late by a slack, and hands that sleep at words of memory.

answers(calls) goes through one list of calls on one house, which is new.
"""

OPENING = 1

WRONG_NUMBER = -2
ALREADY_ASLEEP = -4
TOO_MANY_NOT_TAKEN = -5
NOT_THERE = -6
NO_HOUSE = -7

# The sorts of what happens.
TIMER_DUE = 0
STORED_IN = 1
WOKEN = 2
LATE = 3

WORD_LIMIT = 4294967296
LONGEST = 16777216
LAST_TICK = 1073741824
MOST_NOT_TAKEN = 1024


class Timer:
    def __init__(self, due, period, slack, place):
        self.due = due
        self.period = period
        self.slack = slack
        self.place = place


class Sleeper:
    def __init__(self, word, watches, late_at, place):
        self.word = word
        self.watches = watches
        # None: it sleeps without end.
        self.late_at = late_at
        self.place = place


class House:
    def __init__(self):
        self.now = 0
        # A timer that isn't set and a hand that's awake have nothing to keep,
        # so only the others stand here.
        self.timers = {}
        # A dict keeps the order in which its keys came: that is the order of
        # those asleep, so a hand that is moved must be taken out first.
        self.sleepers = {}
        self.words = [0] * 64
        # Tuples of sort, timer or hand, and tick, as long as nobody took them.
        self.happened = []
        self.counts = [0, 0, 0, 0]
        # How many places were given out: timers and hands draw from one row of
        # them, since what's due at the same tick has one common order.
        self.places = 0


def is_timer(number):
    return 0 <= number <= 63


def is_hand(number):
    return 0 <= number <= 15


def is_word(number):
    return 0 <= number <= 63


def is_delay(number):
    return 1 <= number <= LONGEST


def is_period(number):
    return number == 0 or 16 <= number <= LONGEST


def is_slack(number):
    return 0 <= number <= 65535


def is_content(number):
    return 0 <= number < WORD_LIMIT


def is_choice(number):
    return 0 <= number <= 1


def is_span(number):
    return 0 <= number <= LONGEST


def is_hand_count(number):
    return 0 <= number <= 16


def is_tick_count(number):
    return 1 <= number <= 1000


def moved_a_little(earliest, slack):
    # Without its lowest 1 bit a number can be halved more often, and nothing
    # between the two can be halved as often: so the last step that isn't too
    # early is the best of all.
    tick = earliest + slack
    lower = tick & (tick - 1)
    while lower >= earliest:
        tick = lower
        lower = tick & (tick - 1)
    return tick


def next_place(house):
    house.places = house.places + 1
    return house.places


def note_happening(house, sort, who):
    house.happened.append((sort, who, house.now))
    house.counts[sort] = (house.counts[sort] + 1) % WORD_LIMIT


def put_timer(house, which, delay, period, slack):
    due = moved_a_little(house.now + delay, slack)
    house.timers[which] = Timer(due, period, slack, next_place(house))


def wake_hand(house, hand, sort):
    house.sleepers.pop(hand)
    note_happening(house, sort, hand)


def move_hand(house, hand, word):
    # It's late when it would have been, and keeps its place for that, too: it
    # didn't fall asleep anew. Only in the order of those asleep it's behind all.
    sleeper = house.sleepers.pop(hand)
    sleeper.word = word
    house.sleepers[hand] = sleeper


def hands_asleep_at(house, word, watches):
    return [
        hand for hand, sleeper in house.sleepers.items()
        if sleeper.word == word and sleeper.watches == watches
    ]


def store_in_word(house, word, number):
    house.words[word] = number
    watching = hands_asleep_at(house, word, True)
    for hand in watching:
        wake_hand(house, hand, STORED_IN)
    return len(watching)


def due_up_to(house, end):
    # No two have the same place, so tick and place alone tell which is first.
    timers = [
        (timer.due, timer.place, TIMER_DUE, which)
        for which, timer in house.timers.items() if timer.due <= end
    ]
    hands = [
        (sleeper.late_at, sleeper.place, LATE, hand)
        for hand, sleeper in house.sleepers.items()
        if sleeper.late_at is not None and sleeper.late_at <= end
    ]
    return timers + hands


def let_timer_happen(house, which):
    timer = house.timers.pop(which)
    note_happening(house, TIMER_DUE, which)
    if timer.period != 0:
        put_timer(house, which, timer.period, timer.period, timer.slack)


def let_ticks_go_by(house, end):
    due = due_up_to(house, end)
    while due:
        first = min(due)
        # What happens is told with this tick, and a timer set again from it.
        house.now = first[0]
        if first[2] == TIMER_DUE:
            let_timer_happen(house, first[3])
        else:
            wake_hand(house, first[3], LATE)
        # A timer that was set again may be due once more before the end.
        due = due_up_to(house, end)
    house.now = end


def ticks_till_late(house, sleeper):
    if sleeper.late_at is None:
        return 0
    return sleeper.late_at - house.now


def answer_set(house, numbers):
    put_timer(house, numbers[0], numbers[1], numbers[2], numbers[3])
    return [house.timers[numbers[0]].due - house.now]


def answer_stop(house, numbers):
    if numbers[0] not in house.timers:
        return [0]
    house.timers.pop(numbers[0])
    return [1]


def answer_left(house, numbers):
    if numbers[0] not in house.timers:
        return [NOT_THERE]
    return [house.timers[numbers[0]].due - house.now]


def answer_sleep(house, numbers):
    hand = numbers[0]
    word = numbers[1]
    span = numbers[4]
    if hand in house.sleepers:
        return [ALREADY_ASLEEP]
    if house.words[word] != numbers[2]:
        return [1]
    late_at = None if span == 0 else house.now + span
    house.sleepers[hand] = Sleeper(word, numbers[3] == 1, late_at, next_place(house))
    return [0]


def answer_store(house, numbers):
    return [store_in_word(house, numbers[0], numbers[1])]


def answer_add(house, numbers):
    word = numbers[0]
    before = house.words[word]
    woken = store_in_word(house, word, (before + numbers[1]) % WORD_LIMIT)
    return [woken, before]


def answer_wake(house, numbers):
    first = hands_asleep_at(house, numbers[0], False)[:numbers[1]]
    for hand in first:
        wake_hand(house, hand, WOKEN)
    return [len(first)]


def answer_move(house, numbers):
    first = hands_asleep_at(house, numbers[0], False)[:numbers[2]]
    for hand in first:
        move_hand(house, hand, numbers[1])
    return [len(first)]


def answer_tick(house, numbers):
    end = house.now + numbers[0]
    if end > LAST_TICK:
        return [WRONG_NUMBER]
    before = len(house.happened)
    if before > MOST_NOT_TAKEN:
        return [TOO_MANY_NOT_TAKEN]
    let_ticks_go_by(house, end)
    return [len(house.happened) - before]


def answer_next(house, numbers):
    if not house.happened:
        return [NOT_THERE]
    return list(house.happened.pop(0))


def answer_hand(house, numbers):
    if numbers[0] not in house.sleepers:
        return [0, 0, 0, 0]
    sleeper = house.sleepers[numbers[0]]
    watches = 1 if sleeper.watches else 0
    return [1, sleeper.word, watches, ticks_till_late(house, sleeper)]


def answer_word(house, numbers):
    word = numbers[0]
    watching = len(hands_asleep_at(house, word, True))
    others = len(hands_asleep_at(house, word, False))
    return [0, house.words[word], watching, others]


def answer_counts(house, numbers):
    there_now = [house.now, len(house.timers), len(house.sleepers), len(house.happened)]
    return [0] + house.counts + there_now


# What each call's numbers must be, in order: this tells how many it has, too.
NUMBERS = {
    1: (),
    2: (is_timer, is_delay, is_period, is_slack),
    3: (is_timer,),
    4: (is_timer,),
    5: (is_hand, is_word, is_content, is_choice, is_span),
    6: (is_word, is_content),
    7: (is_word, is_content),
    8: (is_word, is_hand_count),
    9: (is_word, is_word, is_hand_count),
    10: (is_tick_count,),
    11: (),
    12: (is_hand,),
    13: (is_word,),
    14: (),
}

# Opening is not among them: it makes the house that these are handed.
ANSWERS = {
    2: answer_set,
    3: answer_stop,
    4: answer_left,
    5: answer_sleep,
    6: answer_store,
    7: answer_add,
    8: answer_wake,
    9: answer_move,
    10: answer_tick,
    11: answer_next,
    12: answer_hand,
    13: answer_word,
    14: answer_counts,
}


def are_as_told(call, numbers):
    for is_as_told, number in zip(NUMBERS[call], numbers):
        if not is_as_told(number):
            return False
    return True


def answer_in_house(house, call, numbers):
    if house is None:
        return [NO_HOUSE]
    if not are_as_told(call, numbers):
        return [WRONG_NUMBER]
    answer = ANSWERS[call]
    return answer(house, numbers)


def answers(calls):
    given = []
    house = None
    at = 0
    while at < len(calls):
        call = calls[at]
        end = at + 1 + len(NUMBERS[call])
        if call == OPENING:
            house = House()
            answer = [0]
        else:
            answer = answer_in_house(house, call, calls[at + 1:end])
        given.append(len(answer))
        given.extend(answer)
        at = end
    return given
