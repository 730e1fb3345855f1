"""A stimulation campaign, and the calls that change it and ask of it."""

from haltdays.worth import Day, best_count_of_days, lookahead_count_of_days, plan_value_of_days, value_of_days

MOST_DAYS = 10
GREATEST_GAIN = 1000
GREATEST_DENOMINATOR = 100
GREATEST_COST = 10000

RUNNING = 0

NO_SUCH_DAY = -2
NOTHING_TO_REMOVE = -6
NOT_CREATED = -11
DAY_IS_PAST = -16
OUT_OF_RANGE = -22
TOO_MANY_DAYS = -28


class Campaign:
    """The state behind create; before it there is no campaign at all."""

    def __init__(self):
        self.days = []
        self.next_day = 0
        self.total = 0
        self.status = RUNNING

    def remaining_days(self):
        return self.days[self.next_day:]


def is_in_range(fields):
    """Whether gain, numerator, denominator and cost lie in their ranges."""
    numerator = fields[1]
    denominator = fields[2]
    # No call hands in a number below 0, so only the denominator has a lower end to check.
    return (fields[0] <= GREATEST_GAIN and 1 <= denominator <= GREATEST_DENOMINATOR
            and numerator <= denominator and fields[3] <= GREATEST_COST)


def day_with(fields):
    return Day(fields[0], fields[1], fields[2], fields[3])


def with_fraction(fraction):
    """The answer that tells a fraction: 0 ahead of it, as a numerator may be below 0."""
    return [0, fraction.top, fraction.bottom]


def add_day(campaign, arguments):
    if not is_in_range(arguments):
        return [OUT_OF_RANGE]
    if len(campaign.days) >= MOST_DAYS:
        return [TOO_MANY_DAYS]
    campaign.days.append(day_with(arguments))
    return [len(campaign.days) - 1]


def set_day(campaign, arguments):
    day = arguments[0]
    fields = arguments[1:]
    if day >= len(campaign.days):
        return [NO_SUCH_DAY]
    if not is_in_range(fields):
        return [OUT_OF_RANGE]
    if day < campaign.next_day:
        return [DAY_IS_PAST]
    campaign.days[day] = day_with(fields)
    return [0]


def remove_last_day(campaign, arguments):
    if len(campaign.remaining_days()) == 0:
        return [NOTHING_TO_REMOVE]
    campaign.days.pop()
    return [len(campaign.days)]


def get_day(campaign, arguments):
    if arguments[0] >= len(campaign.days):
        return [NO_SUCH_DAY]
    day = campaign.days[arguments[0]]
    return [day.gain, day.event_top, day.event_bottom, day.cost]


def value(campaign, arguments):
    return with_fraction(value_of_days(campaign.remaining_days()))


def value_from(campaign, arguments):
    day = arguments[0]
    if day > len(campaign.days):
        return [NO_SUCH_DAY]
    return with_fraction(value_of_days(campaign.days[day:]))


def plan_value(campaign, arguments):
    count = arguments[0]
    remaining = campaign.remaining_days()
    if count > len(remaining):
        return [NO_SUCH_DAY]
    return with_fraction(plan_value_of_days(remaining[:count]))


def best_count(campaign, arguments):
    return [best_count_of_days(campaign.remaining_days())]


def lookahead_count(campaign, arguments):
    return [lookahead_count_of_days(campaign.remaining_days())]


CREATE = 0

# How many numbers stand behind the number of each call, from create to summary. All
# twenty are here, since any of them may come before create and is then refused.
ARGUMENT_COUNTS = (0, 4, 5, 0, 1, 0, 1, 1, 0, 0, 1, 0, 1, 1, 0, 0, 1, 2, 0, 0)

# All are called alike, with the campaign and the call's arguments, though some have none to read.
OPERATIONS = {
    1: add_day,
    2: set_day,
    3: remove_last_day,
    4: get_day,
    5: value,
    6: value_from,
    7: plan_value,
    8: best_count,
    9: lookahead_count,
}


def answers(calls):
    """The answers to all the calls on one new object, each behind the count of its numbers."""
    campaign = None
    answered = []
    position = 0
    while position < len(calls):
        number = calls[position]
        end = position + 1 + ARGUMENT_COUNTS[number]
        if number == CREATE:
            campaign = Campaign()
            answer = [0]
        elif campaign is None:
            answer = [NOT_CREATED]
        else:
            operation = OPERATIONS[number]
            answer = operation(campaign, calls[position + 1:end])
        answered.append(len(answer))
        answered.extend(answer)
        position = end
    return answered
