"""How the tests call the program, and what the document's words say of a campaign, in another way."""

import itertools
from fractions import Fraction

from haltdays.campaign import answers

CREATE = [0]
REMOVE_LAST_DAY = [3]
VALUE = [5]
BEST_COUNT = [8]
LOOKAHEAD_COUNT = [9]
IS_MONOTONE = [11]
STOP = [14]
RESTART = [15]
IS_WORTHWHILE = [18]
SUMMARY = [19]

# Every call but create, with arguments that are right in an empty or a one-day campaign or not at all.
CALLS_BUT_CREATE = [
    [1, 10, 1, 10, 50], [2, 0, 10, 1, 10, 50], [3], [4, 0], [5], [6, 0], [7, 0], [8], [9],
    [10, 0], [11], [12, 0], [13, 500], [14], [15], [16, 0], [17, 0, 50], [18], [19],
]

GREATEST_NUMBER = 4294967295

# With this sample no event occurs on a day whose probability is below 1.
QUIET = 999


def add_day(gain, numerator, denominator, cost):
    return [1, gain, numerator, denominator, cost]


def set_day(day, gain, numerator, denominator, cost):
    return [2, day, gain, numerator, denominator, cost]


def get_day(day):
    return [4, day]


def value_from(day):
    return [6, day]


def plan_value(count):
    return [7, count]


def single_day_value(day):
    return [10, day]


def quiet_probability(count):
    return [12, count]


def continue_campaign(sample):
    return [13, sample]


def max_event_cost(day):
    return [16, day]


def value_with_cost(day, cost):
    return [17, day, cost]


# These tell all of the state.
LOOK = [SUMMARY] + [get_day(day) for day in range(10)]


def ask(*calls):
    """The answers, a list for each call, and no number left over."""
    answered = answers([number for call in calls for number in call])
    told = []
    position = 0
    while position < len(answered):
        end = position + 1 + answered[position]
        told.append(answered[position + 1:end])
        position = end
    if position != len(answered) or len(told) != len(calls):
        raise AssertionError(f"{len(calls)} calls are answered with {answered}")
    return told


def creating(days, past=0):
    """The calls that bring about a campaign of these days, the first of which are past.

    They leave it running, unless the probability of the last past day is 1.
    """
    return [CREATE] + [add_day(*day) for day in days] + [continue_campaign(QUIET)] * past


def ask_behind(ahead, *calls):
    """The answers to the calls behind those ahead, of which none may be refused."""
    told = ask(*ahead, *calls)
    for call, answer in zip(ahead, told):
        if answer[0] < 0:
            raise AssertionError(f"{call} is refused with {answer}")
    return told[len(ahead):]


def ask_of(days, *calls):
    """The answers to the calls on a campaign of these days."""
    return ask_behind(creating(days), *calls)


def look_around(ahead, call):
    """The answer to a call, and all of the state before and behind it."""
    told = ask_behind(ahead, *LOOK, call, *LOOK)
    return told[len(LOOK)], told[:len(LOOK)], told[len(LOOK) + 1:]


def as_answer(fraction):
    return [0, fraction.numerator, fraction.denominator]


def as_fraction(answer):
    zero, numerator, denominator = answer
    if zero != 0:
        raise AssertionError(f"no fraction: {answer}")
    return Fraction(numerator, denominator)


FEW_DAYS = [
    (gain, numerator, denominator, cost)
    for gain in (0, 3)
    for numerator, denominator in ((0, 1), (1, 3), (2, 4), (1, 1))
    for cost in (0, 1, 6)
]


def small_campaigns():
    for length in range(3):
        yield from itertools.product(FEW_DAYS, repeat=length)
    yield from itertools.product(FEW_DAYS[::2], repeat=3)


def mixed_numbers(seed):
    """Numbers that look mixed, the same ones at every run."""
    state = seed
    while True:
        state = (state * 1103515245 + 12345) % 2147483648
        yield state // 257


def mixed_campaign(seed, length):
    numbers = mixed_numbers(seed)
    days = []
    for _ in range(length):
        denominator = 1 + next(numbers) % 100
        numerator = next(numbers) % (denominator + 1) // (1 + next(numbers) % 9)
        cost = next(numbers) % 10001 // (1 + next(numbers) % 50)
        days.append((next(numbers) % 1001, numerator, denominator, cost))
    return days


def event_probability(day):
    return Fraction(day[1], day[2])


def value_by_the_document(days):
    if not days:
        return Fraction(0)
    gain, numerator, denominator, cost = days[0]
    p = Fraction(numerator, denominator)
    return max(Fraction(0), (1 - p) * (gain + value_by_the_document(days[1:])) - p * cost)


def plan_value_by_the_document(count, days):
    if count == 0:
        return Fraction(0)
    gain, numerator, denominator, cost = days[0]
    p = Fraction(numerator, denominator)
    return (1 - p) * (gain + plan_value_by_the_document(count - 1, days[1:])) - p * cost


def single_day_value_by_the_document(day):
    gain, numerator, denominator, cost = day
    p = Fraction(numerator, denominator)
    return (1 - p) * gain - p * cost


def best_count_by_the_document(days):
    plans = [plan_value_by_the_document(count, days) for count in range(len(days) + 1)]
    return plans.index(max(plans))


def lookahead_count_by_the_document(days):
    alone = [single_day_value_by_the_document(day) > 0 for day in days]
    return (alone + [False]).index(False)


def is_monotone_by_the_document(days):
    alone = [single_day_value_by_the_document(day) > 0 for day in days]
    return not any(later and not sooner for sooner, later in itertools.combinations(alone, 2))


def quiet_probability_by_the_document(days):
    quiet = Fraction(1)
    for day in days:
        quiet *= 1 - event_probability(day)
    return quiet


def max_event_cost_by_the_document(days):
    """The answer for the first of the days, found by a try of each cost."""
    p = event_probability(days[0])
    if p == 0:
        return [10000]
    going_on = (1 - p) * (days[0][0] + value_by_the_document(days[1:]))
    # Whole numbers are compared in the place of fractions, as there are many to compare.
    left = going_on.numerator * p.denominator
    right = p.numerator * going_on.denominator
    return next(([cost] for cost in range(10000, -1, -1) if left > right * cost), [-33])


class CampaignByTheDocument:
    """One object, and its answer to each call."""

    def __init__(self):
        self.days = None

    def answer(self, call):
        number, *arguments = call
        if number == 0:
            self.days, self.next_day, self.total, self.status = [], 0, 0, 0
            return [0]
        if self.days is None:
            return [-11]
        if number in (1, 2, 3, 13, 14, 15):
            return self.answer_to_change(number, arguments)
        if number in (4, 6, 7, 10, 12, 16, 17):
            return self.answer_of_one(number, *arguments)
        return self.answer_of_all(number)

    def answer_to_change(self, number, arguments):
        if number == 1:
            return self.added(arguments)
        if number == 2:
            return self.replaced(*arguments)
        if number == 3:
            if self.next_day == len(self.days):
                return [-6]
            self.days = self.days[:-1]
            return [len(self.days)]
        if number == 13:
            return self.continued(*arguments)
        if number == 14:
            if self.status != 0:
                return [-16]
            self.status = 2
            return [0, self.total]
        previous = self.next_day
        self.next_day = self.total = self.status = 0
        return [previous]

    def is_out_of_range(self, gain, numerator, denominator, cost):
        return gain > 1000 or not 1 <= denominator <= 100 or not numerator <= denominator or cost > 10000

    def added(self, fields):
        if self.is_out_of_range(*fields):
            return [-22]
        if len(self.days) == 10:
            return [-28]
        self.days = self.days + [tuple(fields)]
        return [len(self.days) - 1]

    def replaced(self, day, *fields):
        if day >= len(self.days):
            return [-2]
        if self.is_out_of_range(*fields):
            return [-22]
        if day < self.next_day:
            return [-16]
        self.days = self.days[:day] + [fields] + self.days[day + 1:]
        return [0]

    def continued(self, sample):
        if sample > 999:
            return [-22]
        if self.status != 0:
            return [-16]
        if self.next_day == len(self.days):
            return [-33]
        gain, numerator, denominator, cost = self.days[self.next_day]
        event = Fraction(sample, 1000) < Fraction(numerator, denominator)
        self.next_day += 1
        self.total += -cost if event else gain
        self.status = 1 if event else 0
        return [int(event), self.total]

    def answer_of_one(self, number, which, cost=0):
        """The answer to a call that asks of one day, or of a count of days."""
        remaining = self.days[self.next_day:]
        if which > {6: len(self.days), 7: len(remaining), 12: len(remaining)}.get(number, len(self.days) - 1):
            return [-2]
        if number == 4:
            return list(self.days[which])
        if number == 16:
            return max_event_cost_by_the_document(self.days[which:])
        if cost > 10000:
            return [-22]
        if number == 6:
            return as_answer(value_by_the_document(self.days[which:]))
        if number == 7:
            return as_answer(plan_value_by_the_document(which, remaining))
        if number == 10:
            return as_answer(single_day_value_by_the_document(self.days[which]))
        if number == 12:
            return as_answer(quiet_probability_by_the_document(remaining[:which]))
        changed = [day[:3] + (cost,) if at == which else day for at, day in enumerate(self.days)]
        return as_answer(value_by_the_document(changed[self.next_day:]))

    def answer_of_all(self, number):
        remaining = self.days[self.next_day:]
        if number == 5:
            return as_answer(value_by_the_document(remaining))
        if number == 8:
            return [best_count_by_the_document(remaining)]
        if number == 9:
            return [lookahead_count_by_the_document(remaining)]
        if number == 11:
            return [int(is_monotone_by_the_document(remaining))]
        if number == 18:
            return [int(value_by_the_document(remaining) > 0)]
        return [len(self.days), self.next_day, self.status, self.total]


def answers_by_the_document(calls):
    campaign = CampaignByTheDocument()
    return [campaign.answer(call) for call in calls]
