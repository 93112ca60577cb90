"""Timers that may be late by a slack, and hands that sleep at words of memory.

answers(calls) goes through one list of calls on one house, which is new.
"""

OPENING = 1

WRONG_NUMBER = -2
ALREADY_ASLEEP = -4
NOT_SET = -6
NO_HOUSE = -7

STORED_IN = 1

WORD_LIMIT = 4294967296
LONGEST = 16777216


class Timer:
    def __init__(self, due, period, slack):
        self.due = due
        self.period = period
        self.slack = slack


class Sleeper:
    def __init__(self, word, watches, late_at):
        self.word = word
        self.watches = watches
        # None: it sleeps without end.
        self.late_at = late_at


class House:
    def __init__(self):
        self.now = 0
        # A timer that isn't set and a hand that's awake have nothing to keep,
        # so only the others stand here.
        self.timers = {}
        # A dict keeps the order in which its keys came: that is the order of
        # those asleep, so a hand that is moved must be taken out first.
        self.sleepers = {}
        self.words = [0] * 64
        # Tuples of sort, timer or hand, and tick, as long as nobody took them.
        self.happened = []
        self.counts = [0, 0, 0, 0]


def is_timer(number):
    return 0 <= number <= 63


def is_hand(number):
    return 0 <= number <= 15


def is_word(number):
    return 0 <= number <= 63


def is_delay(number):
    return 1 <= number <= LONGEST


def is_period(number):
    return number == 0 or 16 <= number <= LONGEST


def is_slack(number):
    return 0 <= number <= 65535


def is_content(number):
    return 0 <= number < WORD_LIMIT


def is_choice(number):
    return 0 <= number <= 1


def is_span(number):
    return 0 <= number <= LONGEST


def moved_a_little(earliest, slack):
    # Without its lowest 1 bit a number can be halved more often, and nothing
    # between the two can be halved as often: so the last step that isn't too
    # early is the best of all.
    tick = earliest + slack
    lower = tick & (tick - 1)
    while lower >= earliest:
        tick = lower
        lower = tick & (tick - 1)
    return tick


def note_happening(house, sort, who, tick):
    house.happened.append((sort, who, tick))
    house.counts[sort] = (house.counts[sort] + 1) % WORD_LIMIT


def wake_hand(house, hand, sort):
    house.sleepers.pop(hand)
    note_happening(house, sort, hand, house.now)


def hands_asleep_at(house, word, watches):
    return [
        hand for hand, sleeper in house.sleepers.items()
        if sleeper.word == word and sleeper.watches == watches
    ]


def store_in_word(house, word, number):
    house.words[word] = number
    watching = hands_asleep_at(house, word, True)
    for hand in watching:
        wake_hand(house, hand, STORED_IN)
    return len(watching)


def answer_set(house, numbers):
    period = numbers[2]
    slack = numbers[3]
    due = moved_a_little(house.now + numbers[1], slack)
    house.timers[numbers[0]] = Timer(due, period, slack)
    return [due - house.now]


def answer_stop(house, numbers):
    if numbers[0] not in house.timers:
        return [0]
    house.timers.pop(numbers[0])
    return [1]


def answer_left(house, numbers):
    if numbers[0] not in house.timers:
        return [NOT_SET]
    return [house.timers[numbers[0]].due - house.now]


def answer_sleep(house, numbers):
    hand = numbers[0]
    word = numbers[1]
    span = numbers[4]
    if hand in house.sleepers:
        return [ALREADY_ASLEEP]
    if house.words[word] != numbers[2]:
        return [1]
    late_at = None if span == 0 else house.now + span
    house.sleepers[hand] = Sleeper(word, numbers[3] == 1, late_at)
    return [0]


def answer_store(house, numbers):
    return [store_in_word(house, numbers[0], numbers[1])]


def answer_add(house, numbers):
    word = numbers[0]
    before = house.words[word]
    woken = store_in_word(house, word, (before + numbers[1]) % WORD_LIMIT)
    return [woken, before]


# What each call's numbers must be, in order: this tells how many it has, too.
NUMBERS = {
    1: (),
    2: (is_timer, is_delay, is_period, is_slack),
    3: (is_timer,),
    4: (is_timer,),
    5: (is_hand, is_word, is_content, is_choice, is_span),
    6: (is_word, is_content),
    7: (is_word, is_content),
}

# Opening is not among them: it makes the house that these are handed.
ANSWERS = {
    2: answer_set,
    3: answer_stop,
    4: answer_left,
    5: answer_sleep,
    6: answer_store,
    7: answer_add,
}


def are_as_told(call, numbers):
    for is_as_told, number in zip(NUMBERS[call], numbers):
        if not is_as_told(number):
            return False
    return True


def answer_in_house(house, call, numbers):
    if house is None:
        return [NO_HOUSE]
    if not are_as_told(call, numbers):
        return [WRONG_NUMBER]
    answer = ANSWERS[call]
    return answer(house, numbers)


def answers(calls):
    given = []
    house = None
    at = 0
    while at < len(calls):
        call = calls[at]
        end = at + 1 + len(NUMBERS[call])
        if call == OPENING:
            house = House()
            answer = [0]
        else:
            answer = answer_in_house(house, call, calls[at + 1:end])
        given.append(len(answer))
        given.extend(answer)
        at = end
    return given
