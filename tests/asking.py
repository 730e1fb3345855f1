"""How the tests call the program, and what the document's words say of days, in another way."""

from fractions import Fraction

from haltdays.campaign import answers

CREATE = [0]
REMOVE_LAST_DAY = [3]
VALUE = [5]
BEST_COUNT = [8]
LOOKAHEAD_COUNT = [9]

# Every call but create, with arguments that are right in an empty or a one-day campaign or not at all.
CALLS_BUT_CREATE = [
    [1, 10, 1, 10, 50], [2, 0, 10, 1, 10, 50], [3], [4, 0], [5], [6, 0], [7, 0], [8], [9],
    [10, 0], [11], [12, 0], [13, 500], [14], [15], [16, 0], [17, 0, 50], [18], [19],
]

GREATEST_NUMBER = 4294967295


def add_day(gain, numerator, denominator, cost):
    return [1, gain, numerator, denominator, cost]


def set_day(day, gain, numerator, denominator, cost):
    return [2, day, gain, numerator, denominator, cost]


def get_day(day):
    return [4, day]


def value_from(day):
    return [6, day]


def plan_value(count):
    return [7, count]


def ask(*calls):
    """The answers, a list for each call, and no number left over."""
    answered = answers([number for call in calls for number in call])
    told = []
    position = 0
    while position < len(answered):
        end = position + 1 + answered[position]
        told.append(answered[position + 1:end])
        position = end
    if position != len(answered) or len(told) != len(calls):
        raise AssertionError(f"{len(calls)} calls are answered with {answered}")
    return told


def ask_of(days, *calls):
    """The answers to the calls on a campaign of these days."""
    adding = [add_day(*day) for day in days]
    return ask(CREATE, *adding, *calls)[1 + len(days):]


def as_answer(fraction):
    return [0, fraction.numerator, fraction.denominator]


def as_fraction(answer):
    zero, numerator, denominator = answer
    if zero != 0:
        raise AssertionError(f"no fraction: {answer}")
    return Fraction(numerator, denominator)


def value_by_the_document(days):
    if not days:
        return Fraction(0)
    gain, numerator, denominator, cost = days[0]
    p = Fraction(numerator, denominator)
    return max(Fraction(0), (1 - p) * (gain + value_by_the_document(days[1:])) - p * cost)


def plan_value_by_the_document(count, days):
    if count == 0:
        return Fraction(0)
    gain, numerator, denominator, cost = days[0]
    p = Fraction(numerator, denominator)
    return (1 - p) * (gain + plan_value_by_the_document(count - 1, days[1:])) - p * cost


def single_day_value_by_the_document(day):
    gain, numerator, denominator, cost = day
    p = Fraction(numerator, denominator)
    return (1 - p) * gain - p * cost


def best_count_by_the_document(days):
    plans = [plan_value_by_the_document(count, days) for count in range(len(days) + 1)]
    return plans.index(max(plans))


def lookahead_count_by_the_document(days):
    alone = [single_day_value_by_the_document(day) > 0 for day in days]
    return (alone + [False]).index(False)
