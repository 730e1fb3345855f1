"""single_day_value, is_monotone and quiet_probability."""

import unittest

from tests.asking import (
    GREATEST_NUMBER, IS_MONOTONE, RESTART, as_answer, ask_behind, ask_of, creating, quiet_probability,
    quiet_probability_by_the_document, single_day_value, single_day_value_by_the_document,
)

# Days that are worth 4, 0 and -20 alone.
GOOD = (10, 1, 10, 50)
EVEN = (10, 1, 2, 10)
BAD = (10, 1, 2, 50)


class SingleDayValueTest(unittest.TestCase):
    def test_above_zero_just_zero_and_below_zero(self):
        told = ask_of([GOOD, EVEN, BAD], *[single_day_value(day) for day in range(3)])
        self.assertEqual(told, [[0, 4, 1], [0, 0, 1], [0, -20, 1]])

    def test_no_event_and_a_sure_event(self):
        days = [(7, 0, 9, 10000), (7, 9, 9, 10000), (0, 0, 1, 3), (1000, 1, 1, 0)]
        told = ask_of(days, *[single_day_value(day) for day in range(4)])
        self.assertEqual(told, [[0, 7, 1], [0, -10000, 1], [0, 0, 1], [0, 0, 1]])

    def test_in_lowest_terms(self):
        # 3/4 * 10 - 1/4 * 4 and 3/4 * 1 - 1/4 * 5
        told = ask_of([(10, 25, 100, 4), (1, 25, 100, 5)], single_day_value(0), single_day_value(1))
        self.assertEqual(told, [[0, 13, 2], [0, -1, 2]])

    def test_no_other_day_has_influence(self):
        for others in ([(1000, 0, 1, 0)], [(0, 1, 1, 10000)]):
            with self.subTest(others=others):
                days = others + [BAD] + others
                self.assertEqual(ask_of(days, single_day_value(1)), [[0, -20, 1]])

    def test_of_any_day_wherever_the_campaign_is(self):
        days = [GOOD, EVEN, BAD]
        for past in range(4):
            with self.subTest(past=past):
                told = ask_behind(creating(days, past), *[single_day_value(day) for day in range(4)])
                self.assertEqual(told, [[0, 4, 1], [0, 0, 1], [0, -20, 1], [-2]])

    def test_refuses_a_day_that_does_not_exist(self):
        self.assertEqual(ask_of([], single_day_value(0), single_day_value(GREATEST_NUMBER)), [[-2], [-2]])
        for length in (1, 2, 10):
            for day in (length, length + 1, GREATEST_NUMBER):
                with self.subTest(length=length, day=day):
                    self.assertEqual(ask_of([GOOD] * length, single_day_value(day)), [[-2]])

    def test_ends_of_the_ranges(self):
        days = [
            (gain, numerator, denominator, cost)
            for gain in (0, 1000)
            for numerator, denominator in ((0, 1), (1, 1), (0, 100), (1, 100), (99, 100), (100, 100))
            for cost in (0, 10000)
        ]
        for day in days:
            with self.subTest(day=day):
                expected = as_answer(single_day_value_by_the_document(day))
                self.assertEqual(ask_of([day], single_day_value(0)), [expected])


class IsMonotoneTest(unittest.TestCase):
    def check(self, days, result):
        with self.subTest(days=days):
            self.assertEqual(ask_of(days, IS_MONOTONE), [[result]])

    def test_no_days(self):
        self.check([], 1)

    def test_one_day(self):
        for day in (GOOD, EVEN, BAD):
            self.check([day], 1)

    def test_two_days(self):
        for first in (GOOD, EVEN, BAD):
            for second in (GOOD, EVEN, BAD):
                self.check([first, second], 0 if second == GOOD and first != GOOD else 1)

    def test_none_positive_behind_one_of_just_zero(self):
        self.check([GOOD, EVEN, EVEN, BAD, EVEN], 1)
        self.check([EVEN, BAD, BAD], 1)

    def test_a_positive_one_behind_one_that_is_not(self):
        self.check([GOOD, EVEN, GOOD], 0)
        self.check([EVEN, BAD, GOOD], 0)
        self.check([GOOD, EVEN, EVEN, BAD, GOOD], 0)
        self.check([BAD] + [EVEN] * 8 + [GOOD], 0)
        self.check([EVEN] * 9 + [GOOD], 0)
        self.check([EVEN, GOOD] + [BAD] * 8, 0)
        self.check([GOOD] * 8 + [BAD, GOOD], 0)

    def test_only_the_sign_counts(self):
        self.check([GOOD, (100, 0, 1, 0), GOOD, BAD, (0, 1, 1, 10000), BAD, EVEN], 1)
        # 1/100 below and 1/100 above zero
        self.check([(100, 1, 100, 9901), (100, 1, 100, 9899)], 0)
        self.check([(100, 1, 100, 9899), (100, 1, 100, 9901)], 1)

    def test_days_behind_are_taken_alone(self):
        # The first day is worth going through for the second, but not alone.
        self.check([(0, 1, 2, 10), (100, 0, 1, 0)], 0)
        # The second day is worth nothing with an event that is sure ahead of it, but alone it is.
        self.check([(1000, 1, 1, 0), (1, 0, 1, 0)], 0)

    def test_past_days_do_not_count(self):
        days = [GOOD, BAD, EVEN, GOOD, EVEN, GOOD, GOOD, BAD]
        expected = [0, 0, 0, 0, 0, 1, 1, 1, 1]
        for past in range(9):
            with self.subTest(past=past):
                self.assertEqual(ask_behind(creating(days, past), IS_MONOTONE), [[expected[past]]])

    def test_a_past_day_counts_again_behind_restart(self):
        self.assertEqual(ask_behind(creating([BAD, GOOD], 1), IS_MONOTONE, RESTART, IS_MONOTONE), [[1], [1], [0]])


class QuietProbabilityTest(unittest.TestCase):
    def test_count_0_is_one(self):
        for days in ([], [GOOD], [(0, 1, 1, 0)] * 10):
            with self.subTest(days=days):
                self.assertEqual(ask_of(days, quiet_probability(0)), [[0, 1, 1]])
        self.assertEqual(ask_behind(creating([GOOD], 1), quiet_probability(0)), [[0, 1, 1]])

    def test_each_count(self):
        days = [(10, 1, 10, 50), (0, 0, 7, 5), (10, 1, 2, 50), (3, 1, 3, 0)]
        told = ask_of(days, *[quiet_probability(count) for count in range(5)])
        self.assertEqual(told, [[0, 1, 1], [0, 9, 10], [0, 9, 10], [0, 9, 20], [0, 3, 10]])

    def test_a_sure_event_makes_it_zero(self):
        for day in ((5, 1, 1, 0), (5, 100, 100, 0)):
            with self.subTest(day=day):
                told = ask_of([GOOD, day, GOOD], *[quiet_probability(count) for count in range(4)])
                self.assertEqual(told, [[0, 1, 1], [0, 9, 10], [0, 0, 1], [0, 0, 1]])

    def test_no_event_at_all(self):
        self.assertEqual(ask_of([(0, 0, 100, 0)] * 10, quiet_probability(10)), [[0, 1, 1]])

    def test_in_lowest_terms(self):
        self.assertEqual(ask_of([(0, 25, 100, 0)], quiet_probability(1)), [[0, 3, 4]])
        # Each day is in lowest terms, but 2/3 * 3/4 is not.
        self.assertEqual(ask_of([(0, 1, 3, 0), (0, 1, 4, 0)], quiet_probability(2)), [[0, 1, 2]])

    def test_ten_days_with_large_numbers(self):
        days = [(0, 1, 100, 0)] * 10
        self.assertEqual(ask_of(days, quiet_probability(10)), [[0, 99 ** 10, 100 ** 10]])
        mixed = [(5, numerator, 91 + numerator % 9, 7) for numerator in range(10)]
        told = ask_of(mixed, *[quiet_probability(count) for count in range(11)])
        expected = [as_answer(quiet_probability_by_the_document(mixed[:count])) for count in range(11)]
        self.assertEqual(told, expected)

    def test_gain_and_cost_have_no_influence(self):
        for gain in (0, 1000):
            for cost in (0, 10000):
                with self.subTest(gain=gain, cost=cost):
                    self.assertEqual(ask_of([(gain, 1, 5, cost)], quiet_probability(1)), [[0, 4, 5]])

    def test_refuses_more_than_the_remaining_days(self):
        for length in (0, 1, 10):
            for count in (length + 1, length + 2, GREATEST_NUMBER):
                with self.subTest(length=length, count=count):
                    self.assertEqual(ask_of([GOOD] * length, quiet_probability(count)), [[-2]])

    def test_past_days_do_not_count(self):
        days = [(10, 1, 10, 50), (10, 1, 2, 50), (10, 1, 3, 50)]
        counts = [quiet_probability(count) for count in range(4)]
        self.assertEqual(ask_behind(creating(days, 1), *counts), [[0, 1, 1], [0, 1, 2], [0, 1, 3], [-2]])
        self.assertEqual(ask_behind(creating(days, 2), *counts), [[0, 1, 1], [0, 2, 3], [-2], [-2]])
        self.assertEqual(ask_behind(creating(days, 3), *counts), [[0, 1, 1], [-2], [-2], [-2]])


if __name__ == "__main__":
    unittest.main()
