"""value, value_from, plan_value, best_count and lookahead_count."""

import math
import unittest

from tests.asking import (
    BEST_COUNT, CREATE, GREATEST_NUMBER, LOOKAHEAD_COUNT, REMOVE_LAST_DAY, VALUE, add_day, as_answer, ask, ask_of,
    plan_value, plan_value_by_the_document, set_day, value_by_the_document, value_from,
)

# The two days of the document's own session.
SESSION = [(10, 1, 10, 50), (10, 1, 2, 50)]

# Ten primes as denominators; with these gains and costs nothing shortens the product of them.
TEN_PRIMES = [97, 89, 83, 79, 73, 71, 67, 61, 59, 53]
TEN_DAYS = [(902, 1, prime, 1000) for prime in TEN_PRIMES]
TEN_BAD_DAYS = [(1, 1, prime, 10000) for prime in TEN_PRIMES]


class ValueTest(unittest.TestCase):
    def test_the_documents_session(self):
        self.assertEqual(ask_of(SESSION, VALUE, BEST_COUNT), [[0, 4, 1], [1]])

    def test_an_empty_campaign(self):
        self.assertEqual(ask_of([], VALUE), [[0, 0, 1]])

    def test_is_never_below_zero(self):
        self.assertEqual(ask_of([(10, 1, 2, 50)], VALUE), [[0, 0, 1]])

    def test_is_zero_for_a_day_of_just_zero(self):
        self.assertEqual(ask_of([(10, 1, 2, 10)], VALUE), [[0, 0, 1]])
        self.assertEqual(ask_of([(0, 0, 100, 10000)], VALUE), [[0, 0, 1]])

    def test_is_in_lowest_terms(self):
        # 3/4 * 10 - 1/4 * 0 = 30/4
        self.assertEqual(ask_of([(10, 25, 100, 0)], VALUE), [[0, 15, 2]])
        self.assertEqual(ask_of([(1, 1, 3, 0)], VALUE), [[0, 2, 3]])

    def test_a_day_without_event_brings_all_its_gain(self):
        self.assertEqual(ask_of([(7, 0, 5, 10000), (8, 0, 3, 1)], VALUE), [[0, 15, 1]])

    def test_a_day_with_a_sure_event_is_not_gone_through(self):
        self.assertEqual(ask_of([(1000, 1, 1, 0), (1000, 0, 1, 0)], VALUE), [[0, 0, 1]])
        self.assertEqual(ask_of([(6, 1, 2, 0), (1000, 100, 100, 10000), (1000, 0, 1, 0)], VALUE), [[0, 3, 1]])

    def test_a_day_that_is_not_worthwhile_alone_is_gone_through_for_a_later_one(self):
        # 1/2 * (0 + 100) - 1/2 * 10
        self.assertEqual(ask_of([(0, 1, 2, 10), (100, 0, 1, 0)], VALUE), [[0, 45, 1]])

    def test_it_stops_before_a_later_day_that_is_bad(self):
        self.assertEqual(ask_of([(4, 1, 2, 0), (0, 1, 2, 10000)], VALUE), [[0, 2, 1]])

    def test_follows_the_days_as_they_change(self):
        told = ask(
            CREATE, VALUE, add_day(5, 0, 1, 0), VALUE, add_day(6, 0, 1, 0), VALUE,
            set_day(0, 1, 0, 1, 0), VALUE, REMOVE_LAST_DAY, VALUE,
        )
        self.assertEqual(told[1::2], [[0, 0, 1], [0, 5, 1], [0, 11, 1], [0, 7, 1], [0, 1, 1]])

    def test_ten_days_with_large_numbers(self):
        answer = ask_of(TEN_DAYS, VALUE)[0]
        self.assertEqual(answer, as_answer(value_by_the_document(TEN_DAYS)))
        self.assertEqual(answer[2], math.prod(TEN_PRIMES))
        self.assertGreater(answer[1], 2 ** 64)

    def test_the_greatest_value(self):
        self.assertEqual(ask_of([(1000, 0, 100, 0)] * 10, VALUE), [[0, 10000, 1]])


class ValueFromTest(unittest.TestCase):
    def test_from_each_day(self):
        days = [(10, 1, 10, 50), (0, 1, 2, 10), (100, 1, 3, 7)]
        told = ask_of(days, *[value_from(day) for day in range(4)])
        self.assertEqual(told, [as_answer(value_by_the_document(days[day:])) for day in range(4)])
        self.assertEqual(told[2:], [[0, 193, 3], [0, 0, 1]])

    def test_the_first_day_gives_the_value(self):
        value, from_first = ask_of(SESSION, VALUE, value_from(0))
        self.assertEqual(from_first, value)

    def test_the_number_of_days_gives_zero(self):
        for length in (0, 1, 10):
            with self.subTest(length=length):
                self.assertEqual(ask_of([(9, 0, 1, 0)] * length, value_from(length)), [[0, 0, 1]])

    def test_refuses_more_than_the_number_of_days(self):
        for length in (0, 1, 10):
            for day in (length + 1, length + 2, GREATEST_NUMBER):
                with self.subTest(length=length, day=day):
                    self.assertEqual(ask_of([(9, 0, 1, 0)] * length, value_from(day)), [[-2]])


class PlanValueTest(unittest.TestCase):
    def test_count_0_is_zero(self):
        self.assertEqual(ask_of([], plan_value(0)), [[0, 0, 1]])
        self.assertEqual(ask_of(SESSION, plan_value(0)), [[0, 0, 1]])

    def test_each_count(self):
        # 9/10 * (10 - 20) - 1/10 * 50
        self.assertEqual(ask_of(SESSION, plan_value(1), plan_value(2)), [[0, 4, 1], [0, -14, 1]])

    def test_below_zero_in_lowest_terms(self):
        self.assertEqual(ask_of([(0, 2, 4, 7)], plan_value(1)), [[0, -7, 2]])
        self.assertEqual(ask_of([(3, 50, 100, 4)], plan_value(1)), [[0, -1, 2]])
        self.assertEqual(ask_of([(0, 1, 1, 10000)], plan_value(1)), [[0, -10000, 1]])

    def test_just_zero(self):
        self.assertEqual(ask_of([(10, 7, 14, 10)], plan_value(1)), [[0, 0, 1]])

    def test_a_sure_event_hides_the_days_behind_it(self):
        told = ask_of([(5, 1, 1, 3), (1000, 0, 1, 0)], plan_value(1), plan_value(2))
        self.assertEqual(told, [[0, -3, 1], [0, -3, 1]])

    def test_goes_through_a_bad_day_without_stopping(self):
        self.assertEqual(ask_of([(4, 1, 2, 0), (0, 1, 2, 100)], plan_value(2)), [[0, -23, 1]])

    def test_refuses_more_than_the_remaining_days(self):
        for length in (0, 1, 10):
            for count in (length + 1, length + 2, GREATEST_NUMBER):
                with self.subTest(length=length, count=count):
                    self.assertEqual(ask_of([(9, 0, 1, 0)] * length, plan_value(count)), [[-2]])

    def test_ten_days_with_large_numbers(self):
        told = ask_of(TEN_DAYS, *[plan_value(count) for count in range(11)])
        expected = [as_answer(plan_value_by_the_document(count, TEN_DAYS)) for count in range(11)]
        self.assertEqual(told, expected)
        self.assertEqual(told[10][2], math.prod(TEN_PRIMES))

    def test_ten_days_with_large_numbers_below_zero(self):
        answer = ask_of(TEN_BAD_DAYS, plan_value(10))[0]
        self.assertEqual(answer, as_answer(plan_value_by_the_document(10, TEN_BAD_DAYS)))
        self.assertEqual(answer[2], math.prod(TEN_PRIMES))
        self.assertLess(answer[1], -2 ** 64)


class BestCountTest(unittest.TestCase):
    def test_an_empty_campaign(self):
        self.assertEqual(ask_of([], BEST_COUNT), [[0]])

    def test_no_plan_above_zero(self):
        self.assertEqual(ask_of([(10, 1, 2, 50), (10, 1, 2, 50)], BEST_COUNT), [[0]])
        self.assertEqual(ask_of([(0, 0, 1, 5), (10, 1, 2, 10), (5, 1, 1, 0)], BEST_COUNT), [[0]])

    def test_the_smallest_of_counts_with_the_same_plan_value(self):
        self.assertEqual(ask_of([(5, 0, 1, 0), (0, 0, 1, 0), (10, 1, 2, 10)], BEST_COUNT), [[1]])
        self.assertEqual(ask_of([(0, 0, 1, 0), (5, 0, 1, 0), (0, 0, 3, 9)], BEST_COUNT), [[2]])

    def test_the_same_plan_value_again_behind_a_lower_one(self):
        # The plan values are 0, 5, 1, 5.
        days = [(5, 0, 1, 0), (0, 1, 2, 8), (8, 0, 1, 0)]
        told = ask_of(days, *[plan_value(count) for count in range(4)], BEST_COUNT)
        self.assertEqual(told, [[0, 0, 1], [0, 5, 1], [0, 1, 1], [0, 5, 1], [1]])

    def test_a_greater_plan_value_behind_a_lower_one(self):
        self.assertEqual(ask_of([(5, 0, 1, 0), (0, 1, 2, 8), (9, 0, 1, 0)], BEST_COUNT), [[3]])

    def test_all_ten_days(self):
        self.assertEqual(ask_of([(1, 0, 1, 0)] * 10, BEST_COUNT), [[10]])

    def test_close_plan_values_are_told_apart(self):
        # The second day alone is worth 1/100 above zero, or 1/100 below it.
        self.assertEqual(ask_of([(50, 1, 7, 3), (100, 1, 100, 9899), (0, 1, 1, 0)], BEST_COUNT), [[2]])
        self.assertEqual(ask_of([(50, 1, 7, 3), (100, 1, 100, 9901), (0, 1, 1, 0)], BEST_COUNT), [[1]])

    def test_plan_values_that_differ_in_the_twentieth_place(self):
        nine_days = [(1000, 99, 100, 0)] * 9
        self.assertEqual(ask_of(nine_days + [(1, 99, 100, 0)], BEST_COUNT), [[10]])
        self.assertEqual(ask_of(nine_days + [(0, 99, 100, 0)], BEST_COUNT), [[9]])
        self.assertEqual(ask_of(nine_days + [(0, 1, 100, 1)], BEST_COUNT), [[9]])


class LookaheadCountTest(unittest.TestCase):
    def test_an_empty_campaign(self):
        self.assertEqual(ask_of([], LOOKAHEAD_COUNT), [[0]])

    def test_a_single_day_value_of_just_zero_ends_it(self):
        self.assertEqual(ask_of([(5, 0, 1, 0), (10, 1, 2, 10), (5, 0, 1, 0)], LOOKAHEAD_COUNT), [[1]])
        self.assertEqual(ask_of([(0, 0, 1, 7), (5, 0, 1, 0)], LOOKAHEAD_COUNT), [[0]])
        self.assertEqual(ask_of([(5, 1, 1, 0), (5, 0, 1, 0)], LOOKAHEAD_COUNT), [[0]])

    def test_just_above_and_just_below_zero(self):
        self.assertEqual(ask_of([(100, 1, 100, 9899)], LOOKAHEAD_COUNT), [[1]])
        self.assertEqual(ask_of([(100, 1, 100, 9900)], LOOKAHEAD_COUNT), [[0]])
        self.assertEqual(ask_of([(100, 1, 100, 9901)], LOOKAHEAD_COUNT), [[0]])

    def test_all_days_if_every_one_is_worthwhile(self):
        for length in (1, 2, 10):
            with self.subTest(length=length):
                self.assertEqual(ask_of([(10, 1, 10, 50)] * length, LOOKAHEAD_COUNT), [[length]])

    def test_looks_at_each_day_alone(self):
        # The first day is worth going through for the second, but not alone.
        self.assertEqual(ask_of([(0, 1, 2, 10), (100, 0, 1, 0)], LOOKAHEAD_COUNT, BEST_COUNT), [[0], [2]])
        # The second day alone is worthwhile, and counts after a first one that is.
        self.assertEqual(ask_of([(10, 1, 10, 50), (1, 0, 1, 0), (0, 1, 2, 1)], LOOKAHEAD_COUNT), [[2]])


if __name__ == "__main__":
    unittest.main()
