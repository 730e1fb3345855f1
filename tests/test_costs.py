"""max_event_cost, value_with_cost and is_worthwhile."""

import unittest

from tests.asking import (
    GREATEST_NUMBER, IS_WORTHWHILE, LOOK, STOP, VALUE, as_answer, ask_behind, ask_of, continue_campaign, creating,
    look_around, max_event_cost, max_event_cost_by_the_document, mixed_campaign, set_day, value_by_the_document,
    value_with_cost,
)

SAFE_THOUSAND = (1000, 0, 1, 0)


class MaxEventCostTest(unittest.TestCase):
    def check(self, days, cost):
        with self.subTest(days=days):
            self.assertEqual(ask_of(days, max_event_cost(0)), [[cost]])

    def test_the_documents_session(self):
        # 9 - c/10 is just 0 at 90.
        self.check([(10, 1, 10, 50), (10, 1, 2, 50)], 89)

    def test_just_zero_at_a_whole_cost(self):
        self.check([(10, 1, 2, 0)], 9)
        self.check([(10, 50, 100, 0)], 9)
        self.check([(3, 1, 4, 0)], 8)
        self.check([(3, 2, 3, 0), (1, 0, 1, 0)], 1)

    def test_just_zero_between_two_whole_costs(self):
        # 3/5 * 7 - 2/5 * c is 0 at 10 1/2, and with 8 behind it, or 1/2, at 22 1/2 and 11 1/4.
        self.check([(7, 2, 5, 0)], 10)
        self.check([(7, 2, 5, 0), (8, 0, 1, 0)], 22)
        self.check([(7, 2, 5, 0), (1, 1, 2, 0)], 11)

    def test_cost_0_is_the_answer(self):
        self.check([(1, 1, 2, 10000)], 0)
        self.check([(1, 99, 100, 10000)], 0)
        self.check([(0, 1, 2, 10000), (1, 0, 1, 0)], 0)
        self.check([(0, 1, 2, 10000), (1, 99, 100, 0)], 0)
        self.check([(2, 1, 2, 10000)], 1)

    def test_the_costs_would_go_further_than_10000(self):
        self.check([(1000, 1, 100, 0)], 10000)
        self.check([(1000, 1, 3, 0)] + [SAFE_THOUSAND] * 9, 10000)

    def test_the_costs_go_just_so_far(self):
        # 73/74 * 137 - c/74 is 0 at 10001.
        self.check([(137, 1, 74, 0)], 10000)
        # 2/3 * (1000 + 4000 + 1/4) - c/3 is 0 at 10000 1/2.
        self.check([(1000, 1, 3, 0)] + [SAFE_THOUSAND] * 4 + [(1, 3, 4, 0)], 10000)

    def test_the_costs_do_not_go_quite_so_far(self):
        # All of these are 0 at 10000.
        self.check([(1000, 1, 11, 0)], 9999)
        self.check([(1000, 1, 3, 0)] + [SAFE_THOUSAND] * 4, 9999)
        self.check([(1000, 1, 2, 0)] + [SAFE_THOUSAND] * 9, 9999)
        # 2/3 * (999 + 4000 + 2/4) - c/3 is 0 at 9999.
        self.check([(999, 1, 3, 0)] + [SAFE_THOUSAND] * 4 + [(1, 2, 4, 0)], 9998)

    def test_probability_0(self):
        for gain in (0, 1, 1000):
            for denominator in (1, 100):
                for behind in ([], [(0, 1, 2, 10000)], [SAFE_THOUSAND]):
                    self.check([(gain, 0, denominator, 3)] + behind, 10000)

    def test_probability_1(self):
        for gain in (0, 1000):
            for denominator in (1, 100):
                for behind in ([], [(0, 1, 2, 10000)], [SAFE_THOUSAND] * 9):
                    self.check([(gain, denominator, denominator, 0)] + behind, -33)

    def test_not_positive_at_cost_0(self):
        for numerator in (1, 50, 99):
            for behind in ([], [(0, 1, 2, 10000)], [(10, 1, 2, 10)], [(0, 0, 1, 0)]):
                self.check([(0, numerator, 100, 0)] + behind, -33)

    def test_days_behind_count_with_their_value(self):
        # A bad day behind is not gone through, so it takes nothing away.
        self.check([(10, 1, 2, 0), (0, 1, 2, 10000), (30, 0, 1, 0)], 9)
        # A bad day behind that is gone through for the last one is worth 1/2 * 30 - 1/2 * 10.
        self.check([(10, 1, 2, 0), (0, 1, 2, 10), (30, 0, 1, 0)], 19)

    def test_the_days_own_cost_has_no_influence(self):
        for cost in (0, 1, 89, 90, 10000):
            self.check([(10, 1, 10, cost), (10, 1, 2, 50)], 89)

    def test_of_each_day(self):
        days = [(1000, 0, 1, 0), (10, 1, 10, 50), (10, 1, 2, 50), (0, 1, 2, 0)]
        for past in range(5):
            with self.subTest(past=past):
                told = ask_behind(creating(days, past), *[max_event_cost(day) for day in range(5)])
                self.assertEqual(told, [[10000], [89], [9], [-33], [-2]])

    def test_in_every_status(self):
        for ended in ([], [STOP], [continue_campaign(0)]):
            ahead = creating([(10, 1, 10, 50)] * 3, 1) + ended
            with self.subTest(ended=ended):
                # 9/10 * (10 + 38/5) - c/10 is 0 at 158 2/5.
                self.assertEqual(ask_behind(ahead, max_event_cost(0), max_event_cost(2)), [[158], [89]])

    def test_refuses_a_day_that_does_not_exist(self):
        self.assertEqual(ask_of([], max_event_cost(0), max_event_cost(GREATEST_NUMBER)), [[-2], [-2]])
        for length in (1, 10):
            for day in (length, length + 1, GREATEST_NUMBER):
                with self.subTest(length=length, day=day):
                    # A day with probability 1, as of one that exists -33 would be told.
                    self.assertEqual(ask_of([(0, 1, 1, 0)] * length, max_event_cost(day)), [[-2]])

    def test_changes_nothing(self):
        for day in (0, 1, 2):
            answer, before, behind = look_around(creating([(10, 1, 10, 50), (0, 1, 2, 3)], 1), max_event_cost(day))
            with self.subTest(day=day, answer=answer):
                self.assertEqual(behind, before)

    def test_mixed_campaigns(self):
        for seed in range(60):
            days = mixed_campaign(seed, seed % 11)
            told = ask_of(days, *[max_event_cost(day) for day in range(len(days))])
            expected = [max_event_cost_by_the_document(days[day:]) for day in range(len(days))]
            with self.subTest(days=days):
                self.assertEqual(told, expected)

    def test_the_value_is_positive_up_to_this_cost(self):
        days = [(10, 1, 3, 50), (10, 1, 2, 3), (7, 2, 9, 8)]
        cost = ask_of(days, max_event_cost(0))[0][0]
        told = ask_of(days, *[call for at in (cost, cost + 1) for call in (set_day(0, 10, 1, 3, at), IS_WORTHWHILE)])
        self.assertEqual(told, [[0], [1], [0], [0]])


class ValueWithCostTest(unittest.TestCase):
    def test_costs_0_and_10000_and_one_between(self):
        told = ask_of([(10, 1, 10, 50)], *[value_with_cost(0, cost) for cost in (0, 50, 85, 90, 10000)])
        self.assertEqual(told, [[0, 9, 1], [0, 4, 1], [0, 1, 2], [0, 0, 1], [0, 0, 1]])

    def test_refuses_costs_above_10000(self):
        for past in (0, 1, 2):
            for day in (0, 1):
                for cost in (10001, GREATEST_NUMBER):
                    ahead = creating([(10, 1, 10, 50)] * 2, past)
                    answer, before, behind = look_around(ahead, value_with_cost(day, cost))
                    with self.subTest(past=past, day=day, cost=cost):
                        self.assertEqual(answer, [-22])
                        self.assertEqual(behind, before)

    def test_refuses_a_day_that_does_not_exist(self):
        for length in (0, 1, 10):
            for day in (length, length + 1, GREATEST_NUMBER):
                for cost in (0, 10000, 10001, GREATEST_NUMBER):
                    with self.subTest(length=length, day=day, cost=cost):
                        self.assertEqual(ask_of([(10, 1, 10, 50)] * length, value_with_cost(day, cost)), [[-2]])

    def test_a_past_day_the_next_day_and_a_later_one(self):
        days = [(10, 1, 10, 50), (20, 1, 4, 8), (10, 1, 2, 4)]
        ahead = creating(days, 1)
        # 3/4 * (20 + 3) - 1/4 * 8 = 61/4
        self.assertEqual(ask_behind(ahead, VALUE), [[0, 61, 4]])
        told = ask_behind(ahead, value_with_cost(0, 0), value_with_cost(0, 10000), value_with_cost(0, 50))
        self.assertEqual(told, [[0, 61, 4]] * 3)
        told = ask_behind(ahead, value_with_cost(1, 0), value_with_cost(1, 10000), value_with_cost(1, 8))
        self.assertEqual(told, [[0, 69, 4], [0, 0, 1], [0, 61, 4]])
        told = ask_behind(ahead, value_with_cost(2, 0), value_with_cost(2, 10000), value_with_cost(2, 4))
        self.assertEqual(told, [[0, 67, 4], [0, 13, 1], [0, 61, 4]])

    def test_no_remaining_days(self):
        ahead = creating([(10, 1, 10, 50)] * 2, 2)
        told = ask_behind(ahead, value_with_cost(0, 0), value_with_cost(1, 0), value_with_cost(2, 0))
        self.assertEqual(told, [[0, 0, 1], [0, 0, 1], [-2]])

    def test_in_every_status(self):
        for ended in ([], [STOP], [continue_campaign(0)]):
            ahead = creating([(10, 1, 10, 50)] * 3, 1) + ended
            with self.subTest(ended=ended):
                told = ask_behind(ahead, value_with_cost(0, 0), VALUE, value_with_cost(2, 0))
                self.assertEqual(told[0], told[1])
                self.assertGreater(told[2][1] * told[1][2], told[1][1] * told[2][2])

    def test_the_day_keeps_its_cost(self):
        for day in (0, 1, 2):
            for cost in (0, 7, 10000):
                ahead = creating([(10, 1, 10, 50), (20, 1, 4, 8), (10, 1, 2, 4)], 1)
                told = ask_behind(ahead, VALUE, *LOOK, value_with_cost(day, cost), VALUE, *LOOK)
                with self.subTest(day=day, cost=cost):
                    self.assertEqual(told[:1 + len(LOOK)], told[2 + len(LOOK):])

    def test_as_if_the_day_were_set(self):
        for seed in range(60):
            days = mixed_campaign(seed, 1 + seed % 10)
            for at, day in enumerate(days):
                for cost in (0, seed * 7, 10000):
                    changed = list(days)
                    changed[at] = day[:3] + (cost,)
                    told = ask_of(days, value_with_cost(at, cost), set_day(at, *changed[at]), VALUE)
                    with self.subTest(days=days, at=at, cost=cost):
                        self.assertEqual(told[0], told[2])
                        self.assertEqual(told[0], as_answer(value_by_the_document(changed)))


class IsWorthwhileTest(unittest.TestCase):
    def check(self, days, result):
        with self.subTest(days=days):
            self.assertEqual(ask_of(days, IS_WORTHWHILE), [[result]])

    def test_no_days(self):
        self.check([], 0)

    def test_just_zero(self):
        self.check([(10, 1, 2, 10)], 0)
        self.check([(0, 0, 1, 10)], 0)
        self.check([(1000, 1, 1, 0)], 0)
        self.check([(10, 1, 2, 10), (0, 0, 1, 10)], 0)
        # The second day makes the first one worth just 0: 1/2 * (4 + 6) - 1/2 * 10.
        self.check([(4, 1, 2, 10), (6, 0, 1, 0)], 0)

    def test_going_on_would_be_below_zero(self):
        self.check([(10, 1, 2, 50)], 0)
        self.check([(0, 1, 1, 10000), (1000, 0, 1, 0)], 0)

    def test_above_zero(self):
        self.check([(10, 1, 10, 50)], 1)
        self.check([(1, 0, 1, 0)], 1)
        self.check([(10, 1, 10, 50), (10, 1, 2, 50)], 1)

    def test_the_first_day_is_gone_through_for_the_second(self):
        self.check([(4, 1, 2, 10), (7, 0, 1, 0)], 1)

    def test_a_value_near_zero(self):
        self.check([(100, 1, 100, 9899)], 1)
        self.check([(100, 1, 100, 9900)], 0)
        self.check([(0, 99, 100, 0)] * 9 + [(1, 99, 100, 0)], 1)

    def test_past_days_do_not_count(self):
        days = [(10, 1, 2, 50), (10, 1, 10, 50), (10, 1, 2, 10), (10, 1, 2, 50)]
        for past, result in enumerate([0, 1, 0, 0, 0]):
            with self.subTest(past=past):
                self.assertEqual(ask_behind(creating(days, past), IS_WORTHWHILE), [[result]])

    def test_in_every_status(self):
        for ended in ([], [STOP], [continue_campaign(0)]):
            ahead = creating([(10, 1, 10, 50)] * 3, 1) + ended
            with self.subTest(ended=ended):
                self.assertEqual(ask_behind(ahead, IS_WORTHWHILE), [[1]])


if __name__ == "__main__":
    unittest.main()
