"""The document's requirements 1 to 4, over campaigns some of which have past days."""

import itertools
import unittest

from tests.asking import (
    BEST_COUNT, FEW_DAYS, IS_MONOTONE, LOOKAHEAD_COUNT, VALUE, as_answer, as_fraction, ask_behind,
    best_count_by_the_document, creating, is_monotone_by_the_document, lookahead_count_by_the_document,
    mixed_campaign, plan_value, plan_value_by_the_document, set_day, small_campaigns, value_by_the_document,
    value_with_cost,
)

PAST_DAYS = [[], [(5, 1, 7, 9)], [(900, 1, 3, 2), (0, 1, 1, 10000)]]


def campaigns():
    """Campaigns as past days and the days that remain."""
    turn = itertools.cycle(PAST_DAYS)
    for days in small_campaigns():
        yield next(turn), list(days)
    for seed in range(300):
        yield next(turn), mixed_campaign(seed, seed % 9)


def told_of(past, days):
    """The value, the best and the lookahead count, whether it is monotone, and the plan values."""
    plans = [plan_value(count) for count in range(len(days) + 1)]
    asking = [VALUE, BEST_COUNT, LOOKAHEAD_COUNT, IS_MONOTONE] + plans
    told = ask_behind(creating(past + days, len(past)), *asking)
    return as_fraction(told[0]), told[1][0], told[2][0], told[3][0], [as_fraction(plan) for plan in told[4:]]


def worse_days(day):
    """The day with a smaller gain, with a greater event probability, and with a greater cost."""
    gain, numerator, denominator, cost = day
    worse = []
    if gain > 0:
        worse += [(gain - 1, numerator, denominator, cost), (0, numerator, denominator, cost)]
    if numerator < denominator:
        worse += [(gain, numerator + 1, denominator, cost), (gain, 1, 1, cost)]
    if 0 < numerator and numerator < denominator:
        worse.append((gain, numerator, denominator - 1, cost))
    if cost < 10000:
        worse += [(gain, numerator, denominator, cost + 1), (gain, numerator, denominator, 10000)]
    return worse


class RequirementTest(unittest.TestCase):
    def test_requirement_1(self):
        for past, days in campaigns():
            value, best, _, _, plan_values = told_of(past, days)
            with self.subTest(past=past, days=days):
                self.assertEqual(value, plan_values[best])
                self.assertEqual(value, max(plan_values))
                self.assertNotIn(value, plan_values[:best])

    def test_requirement_2(self):
        monotone = 0
        for past, days in campaigns():
            value, _, lookahead, result, plan_values = told_of(past, days)
            with self.subTest(past=past, days=days):
                if result == 1:
                    monotone += 1
                    self.assertEqual(plan_values[lookahead], value)
        self.assertGreater(monotone, 1000)

    def test_requirement_3(self):
        met = 0
        for past, days in campaigns():
            _, best, lookahead, _, _ = told_of(past, days)
            with self.subTest(past=past, days=days):
                if all(day[1] < day[2] for day in days):
                    met += 1
                    self.assertLessEqual(lookahead, best)
        self.assertGreater(met, 500)

    def test_requirement_4(self):
        turn = itertools.cycle(PAST_DAYS)
        pairs = itertools.product(FEW_DAYS, repeat=2)
        for days in [list(pair) for pair in pairs] + [mixed_campaign(seed, 1 + seed % 8) for seed in range(100)]:
            past = next(turn)
            ahead = creating(past + days, len(past))
            value = as_fraction(ask_behind(ahead, VALUE)[0])
            for at, day in enumerate(days):
                for worse in worse_days(day):
                    with self.subTest(past=past, days=days, at=at, worse=worse):
                        replaced, told = ask_behind(ahead, set_day(len(past) + at, *worse), VALUE)
                        self.assertEqual(replaced, [0])
                        self.assertLessEqual(as_fraction(told), value)

    def test_requirement_4_of_value_with_cost(self):
        costs = [0, 1, 2, 50, 51, 9999, 10000]
        for seed in range(100):
            past = PAST_DAYS[seed % 3]
            days = mixed_campaign(seed, 1 + seed % 8)
            for at in range(len(past), len(past) + len(days)):
                asking = [value_with_cost(at, cost) for cost in costs]
                values = [as_fraction(told) for told in ask_behind(creating(past + days, len(past)), *asking)]
                with self.subTest(past=past, days=days, at=at):
                    self.assertEqual(values, sorted(values, reverse=True))

    def test_all_as_the_terms_tell(self):
        for past, days in campaigns():
            plan_values = [plan_value_by_the_document(count, days) for count in range(len(days) + 1)]
            expected = (
                value_by_the_document(days), best_count_by_the_document(days), lookahead_count_by_the_document(days),
                int(is_monotone_by_the_document(days)), plan_values,
            )
            with self.subTest(past=past, days=days):
                self.assertEqual(told_of(past, days), expected)

    def test_fractions_are_in_lowest_terms(self):
        for past, days in campaigns():
            asking = [VALUE] + [plan_value(count) for count in range(len(days) + 1)]
            told = ask_behind(creating(past + days, len(past)), *asking)
            with self.subTest(past=past, days=days):
                self.assertEqual(told, [as_answer(as_fraction(answer)) for answer in told])


if __name__ == "__main__":
    unittest.main()
