"""A stimulation campaign, and the calls that change it and ask of it."""

from haltdays.worth import (
    Day, best_count_of_days, greatest_worthwhile_cost, is_monotone_case, lookahead_count_of_days, plan_value_of_days,
    quiet_probability_of_days, single_value_of_day, value_of_days, with_other_cost,
)

MOST_DAYS = 10
GREATEST_GAIN = 1000
GREATEST_DENOMINATOR = 100
GREATEST_COST = 10000
GREATEST_SAMPLE = 999
# Samples are in thousandths.
SAMPLES = 1000

RUNNING = 0
ENDED_BY_EVENT = 1
STOPPED = 2

NO_SUCH_DAY = -2
NOTHING_TO_REMOVE = -6
NOT_CREATED = -11
PAST_OR_NOT_RUNNING = -16
OUT_OF_RANGE = -22
TOO_MANY_DAYS = -28
NO_DAY_OR_COST = -33


class Campaign:
    """The state behind create; before it there is no campaign at all."""

    def __init__(self):
        self.days = []
        self.next_day = 0
        self.total = 0
        self.status = RUNNING

    def has_day(self, number):
        return number < len(self.days)

    def remaining_days(self):
        return self.days[self.next_day:]


def is_in_range(fields):
    """Whether gain, numerator, denominator and cost lie in their ranges."""
    numerator = fields[1]
    denominator = fields[2]
    # No call hands in a number below 0, so only the denominator has a lower end to check.
    return (fields[0] <= GREATEST_GAIN and 1 <= denominator <= GREATEST_DENOMINATOR
            and numerator <= denominator and fields[3] <= GREATEST_COST)


def day_with(fields):
    return Day(fields[0], fields[1], fields[2], fields[3])


def with_fraction(fraction):
    """The answer that tells a fraction: 0 ahead of it, as a numerator may be below 0."""
    return [0, fraction.top, fraction.bottom]


def add_day(campaign, arguments):
    if not is_in_range(arguments):
        return [OUT_OF_RANGE]
    if len(campaign.days) >= MOST_DAYS:
        return [TOO_MANY_DAYS]
    campaign.days.append(day_with(arguments))
    return [len(campaign.days) - 1]


def set_day(campaign, arguments):
    day = arguments[0]
    fields = arguments[1:]
    if not campaign.has_day(day):
        return [NO_SUCH_DAY]
    if not is_in_range(fields):
        return [OUT_OF_RANGE]
    if day < campaign.next_day:
        return [PAST_OR_NOT_RUNNING]
    campaign.days[day] = day_with(fields)
    return [0]


def remove_last_day(campaign, arguments):
    if len(campaign.remaining_days()) == 0:
        return [NOTHING_TO_REMOVE]
    campaign.days.pop()
    return [len(campaign.days)]


def get_day(campaign, arguments):
    if not campaign.has_day(arguments[0]):
        return [NO_SUCH_DAY]
    day = campaign.days[arguments[0]]
    return [day.gain, day.event_top, day.event_bottom, day.cost]


def value(campaign, arguments):
    return with_fraction(value_of_days(campaign.remaining_days()))


def value_from(campaign, arguments):
    day = arguments[0]
    if day > len(campaign.days):
        return [NO_SUCH_DAY]
    return with_fraction(value_of_days(campaign.days[day:]))


def plan_value(campaign, arguments):
    count = arguments[0]
    remaining = campaign.remaining_days()
    if count > len(remaining):
        return [NO_SUCH_DAY]
    return with_fraction(plan_value_of_days(remaining[:count]))


def best_count(campaign, arguments):
    return [best_count_of_days(campaign.remaining_days())]


def lookahead_count(campaign, arguments):
    return [lookahead_count_of_days(campaign.remaining_days())]


def single_day_value(campaign, arguments):
    if not campaign.has_day(arguments[0]):
        return [NO_SUCH_DAY]
    return with_fraction(single_value_of_day(campaign.days[arguments[0]]))


def is_monotone(campaign, arguments):
    return [1 if is_monotone_case(campaign.remaining_days()) else 0]


def quiet_probability(campaign, arguments):
    count = arguments[0]
    remaining = campaign.remaining_days()
    if count > len(remaining):
        return [NO_SUCH_DAY]
    return with_fraction(quiet_probability_of_days(remaining[:count]))


def continue_campaign(campaign, arguments):
    sample = arguments[0]
    if sample > GREATEST_SAMPLE:
        return [OUT_OF_RANGE]
    if campaign.status != RUNNING:
        return [PAST_OR_NOT_RUNNING]
    if not campaign.has_day(campaign.next_day):
        return [NO_DAY_OR_COST]
    day = campaign.days[campaign.next_day]
    campaign.next_day += 1
    if sample * day.event_bottom < SAMPLES * day.event_top:
        campaign.status = ENDED_BY_EVENT
        campaign.total -= day.cost
        return [1, campaign.total]
    campaign.total += day.gain
    return [0, campaign.total]


def stop(campaign, arguments):
    if campaign.status != RUNNING:
        return [PAST_OR_NOT_RUNNING]
    campaign.status = STOPPED
    return [0, campaign.total]


def restart(campaign, arguments):
    previous_next_day = campaign.next_day
    campaign.next_day = 0
    campaign.total = 0
    campaign.status = RUNNING
    return [previous_next_day]


def max_event_cost(campaign, arguments):
    number = arguments[0]
    if not campaign.has_day(number):
        return [NO_SUCH_DAY]
    day = campaign.days[number]
    if day.event_top == 0:
        return [GREATEST_COST]
    cost = greatest_worthwhile_cost(day, value_of_days(campaign.days[number + 1:]))
    if cost < 0:
        return [NO_DAY_OR_COST]
    return [min(cost, GREATEST_COST)]


def value_with_cost(campaign, arguments):
    number = arguments[0]
    cost = arguments[1]
    if not campaign.has_day(number):
        return [NO_SUCH_DAY]
    if cost > GREATEST_COST:
        return [OUT_OF_RANGE]
    days = list(campaign.days)
    days[number] = with_other_cost(days[number], cost)
    return with_fraction(value_of_days(days[campaign.next_day:]))


def is_worthwhile(campaign, arguments):
    return [1 if value_of_days(campaign.remaining_days()).top > 0 else 0]


def summary(campaign, arguments):
    return [len(campaign.days), campaign.next_day, campaign.status, campaign.total]


CREATE = 0

# How many numbers stand behind the number of each call, from create to summary.
ARGUMENT_COUNTS = (0, 4, 5, 0, 1, 0, 1, 1, 0, 0, 1, 0, 1, 1, 0, 0, 1, 2, 0, 0)

# All are called alike, with the campaign and the call's arguments, though some have none to read.
OPERATIONS = {
    1: add_day,
    2: set_day,
    3: remove_last_day,
    4: get_day,
    5: value,
    6: value_from,
    7: plan_value,
    8: best_count,
    9: lookahead_count,
    10: single_day_value,
    11: is_monotone,
    12: quiet_probability,
    13: continue_campaign,
    14: stop,
    15: restart,
    16: max_event_cost,
    17: value_with_cost,
    18: is_worthwhile,
    19: summary,
}


def answers(calls):
    """The answers to all the calls on one new object, each behind the count of its numbers."""
    campaign = None
    answered = []
    position = 0
    while position < len(calls):
        number = calls[position]
        end = position + 1 + ARGUMENT_COUNTS[number]
        if number == CREATE:
            campaign = Campaign()
            answer = [0]
        elif campaign is None:
            answer = [NOT_CREATED]
        else:
            operation = OPERATIONS[number]
            answer = operation(campaign, calls[position + 1:end])
        answered.append(len(answer))
        answered.extend(answer)
        position = end
    return answered
