"""What lists of days are worth, in exact fractions.

Python's own whole numbers have a numerator and a denominator; so that nobody
takes one for the other, the values of objects are called top and bottom here.
"""


class Fraction:
    """A fraction in lowest terms with a positive bottom."""

    def __init__(self, top, bottom):
        self.top = top
        self.bottom = bottom


class Day:
    """A day; the probability of an event is kept as it was given, not reduced."""

    def __init__(self, gain, event_top, event_bottom, cost):
        self.gain = gain
        self.event_top = event_top
        self.event_bottom = event_bottom
        self.cost = cost


def with_other_cost(day, cost):
    return Day(day.gain, day.event_top, day.event_bottom, cost)


def common_divisor(first, second):
    """The greatest whole number that divides both; the second is positive."""
    larger = first
    smaller = second
    while smaller != 0:
        remainder = larger % smaller
        larger = smaller
        smaller = remainder
    return larger


def lowest_terms(top, bottom):
    """The fraction top / bottom; the bottom is positive."""
    divisor = common_divisor(abs(top), bottom)
    return Fraction(top // divisor, bottom // divisor)


def is_greater(first, second):
    """Whether the first fraction is greater than the second."""
    return first.top * second.bottom > second.top * first.bottom


def value_of_going_on(day, rest):
    """What the day brings if the days behind it are worth `rest`."""
    quiet_top = day.event_bottom - day.event_top
    quiet_part = quiet_top * (day.gain * rest.bottom + rest.top)
    event_part = day.event_top * day.cost * rest.bottom
    return lowest_terms(quiet_part - event_part, day.event_bottom * rest.bottom)


def single_value_of_day(day):
    """The single-day value: nothing comes behind the day."""
    return value_of_going_on(day, Fraction(0, 1))


def value_of_days(days):
    """The value of the days when it is possible to stop before each."""
    worth = Fraction(0, 1)
    for day in reversed(days):
        going_on = value_of_going_on(day, worth)
        worth = going_on if going_on.top > 0 else Fraction(0, 1)
    return worth


def plan_value_of_days(days):
    """The plan value of continuing through all of the days."""
    worth = Fraction(0, 1)
    for day in reversed(days):
        worth = value_of_going_on(day, worth)
    return worth


def best_count_of_days(days):
    """The smallest number of days with the greatest plan value."""
    best = 0
    best_worth = Fraction(0, 1)
    for count in range(1, len(days) + 1):
        worth = plan_value_of_days(days[:count])
        if is_greater(worth, best_worth):
            best = count
            best_worth = worth
    return best


def lookahead_count_of_days(days):
    """The number of days before the first that is not worthwhile alone."""
    for count, day in enumerate(days):
        if single_value_of_day(day).top <= 0:
            return count
    return len(days)


def is_monotone_case(days):
    """Whether no day behind the first that is not worthwhile alone is worthwhile alone."""
    for day in days[lookahead_count_of_days(days):]:
        if single_value_of_day(day).top > 0:
            return False
    return True


def quiet_probability_of_days(days):
    """The probability that no event occurs on any of the days."""
    quiet_top = 1
    bottom = 1
    for day in days:
        quiet_top *= day.event_bottom - day.event_top
        bottom *= day.event_bottom
    return lowest_terms(quiet_top, bottom)


def greatest_worthwhile_cost(day, rest):
    """The greatest whole event cost at which going on is worth more than 0, or a number below 0.

    The day's event probability is not 0, as without an event its cost sets no bound.
    """
    free_of_cost = value_of_going_on(with_other_cost(day, 0), rest)
    # Both sides of p * cost < free_of_cost are multiplied with both bottoms.
    limit = free_of_cost.top * day.event_bottom
    step = day.event_top * free_of_cost.bottom
    # At step * cost == limit it is worth just 0, so the cost has to stay below that.
    return (limit - 1) // step
