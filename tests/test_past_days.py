"""What is asked once days are past: the remaining days alone count, but where any day may be named."""

import unittest

from tests.asking import (
    BEST_COUNT, IS_MONOTONE, IS_WORTHWHILE, LOOKAHEAD_COUNT, RESTART, STOP, SUMMARY, VALUE, ask_behind,
    continue_campaign, creating, get_day, max_event_cost, mixed_campaign, plan_value, quiet_probability,
    single_day_value, value_from,
)

# Behind the first day there is one worth 4 alone and one that costs 5 for sure.
DAYS = [(100, 0, 1, 0), (10, 1, 10, 50), (0, 1, 1, 5)]

OF_ALL = [VALUE, BEST_COUNT, LOOKAHEAD_COUNT, IS_MONOTONE, IS_WORTHWHILE]
OF_SOME = [plan_value(count) for count in range(11)] + [quiet_probability(count) for count in range(11)]
OF_ANY = [call(day) for call in (value_from, get_day, single_day_value, max_event_cost) for day in range(12)]

# Days that are gone through without an event.
QUIET_DAYS = [(day[0], min(day[1], day[2] - 1), day[2], day[3]) for day in mixed_campaign(5, 10)]


class PastDaysTest(unittest.TestCase):
    def test_value(self):
        told = [ask_behind(creating(DAYS, past), VALUE)[0] for past in range(3)]
        self.assertEqual(told, [[0, 104, 1], [0, 4, 1], [0, 0, 1]])

    def test_value_from_counts_all_days(self):
        for past in range(3):
            with self.subTest(past=past):
                told = ask_behind(creating(DAYS, past), *[value_from(day) for day in range(5)])
                self.assertEqual(told, [[0, 104, 1], [0, 4, 1], [0, 0, 1], [0, 0, 1], [-2]])

    def test_plan_value(self):
        told = ask_behind(creating(DAYS, 1), *[plan_value(count) for count in range(4)])
        self.assertEqual(told, [[0, 0, 1], [0, 4, 1], [0, -1, 2], [-2]])

    def test_counts(self):
        told = [ask_behind(creating(DAYS, past), BEST_COUNT, LOOKAHEAD_COUNT) for past in range(3)]
        self.assertEqual(told, [[[2], [2]], [[1], [1]], [[0], [0]]])

    def test_no_remaining_day(self):
        told = ask_behind(creating(DAYS, 3), *OF_ALL, plan_value(0), plan_value(1), quiet_probability(1))
        self.assertEqual(told, [[0, 0, 1], [0], [0], [1], [0], [0, 0, 1], [-2], [-2]])

    def test_the_remaining_days_are_as_a_campaign_of_their_own(self):
        for seed in range(40):
            days = [(day[0], min(day[1], day[2] - 1), day[2], day[3]) for day in mixed_campaign(seed, 1 + seed % 10)]
            for past in range(len(days) + 1):
                with self.subTest(days=days, past=past):
                    behind = ask_behind(creating(days, past), *OF_ALL, *OF_SOME)
                    self.assertEqual(behind, ask_behind(creating(days[past:]), *OF_ALL, *OF_SOME))

    def test_any_day_is_told_as_before(self):
        for past in range(11):
            with self.subTest(past=past):
                told = ask_behind(creating(QUIET_DAYS, past), *OF_ANY)
                self.assertEqual(told, ask_behind(creating(QUIET_DAYS), *OF_ANY))

    def test_the_status_has_no_influence(self):
        for past in range(1, 10):
            # The last past day brings an event for sure, and for that the campaign ends.
            sure = QUIET_DAYS[:past - 1] + [(3, 1, 1, 7)] + QUIET_DAYS[past:]
            asking = OF_ALL + OF_SOME
            running = ask_behind(creating(QUIET_DAYS, past), SUMMARY, *asking)
            stopped = ask_behind(creating(QUIET_DAYS, past) + [STOP], SUMMARY, *asking)
            ended = ask_behind(creating(sure, past), SUMMARY, *asking)
            with self.subTest(past=past):
                self.assertEqual([told[0][2] for told in (running, ended, stopped)], [0, 1, 2])
                self.assertEqual(stopped[1:], running[1:])
                self.assertEqual(ended[1:], running[1:])

    def test_behind_restart_all_days_remain(self):
        for ended in ([], [STOP], [continue_campaign(0)]):
            told = ask_behind(creating(DAYS, 1) + ended, RESTART, *OF_ALL, *OF_SOME)
            with self.subTest(ended=ended):
                self.assertEqual(told[1:], ask_behind(creating(DAYS), *OF_ALL, *OF_SOME))


if __name__ == "__main__":
    unittest.main()
