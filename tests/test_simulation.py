"""continue_campaign, stop, restart and summary."""

import unittest

from haltdays import campaign as program
from tests.asking import (
    CREATE, GREATEST_NUMBER, LOOK, QUIET, REMOVE_LAST_DAY, RESTART, STOP, SUMMARY, add_day, ask, ask_behind, ask_of,
    continue_campaign, creating, get_day, look_around, plan_value, set_day, value_with_cost,
)

DAY = (10, 1, 10, 50)
SURE_DAY = (10, 1, 1, 50)
SAFE_DAY = (10, 0, 1, 50)
EVENT = continue_campaign(0)
NO_EVENT = continue_campaign(QUIET)

RUNNING = creating([DAY] * 4, 2)
ENDED = creating([DAY] * 4, 1) + [EVENT]
STOPPED = creating([DAY] * 4, 2) + [STOP]


class RefusalTest(unittest.TestCase):
    def check_refused(self, ahead, call, code):
        with self.subTest(ahead=ahead, call=call):
            answer, before, behind = look_around(ahead, call)
            self.assertEqual(answer, [code])
            self.assertEqual(behind, before)


class ContinueCampaignTest(RefusalTest):
    def test_a_day_with_and_a_day_without_event(self):
        told = ask_of([DAY, (10, 1, 2, 50)], continue_campaign(500), continue_campaign(400), SUMMARY)
        self.assertEqual(told, [[0, 10], [1, -40], [2, 2, 1, -40]])

    def test_the_sample_at_which_no_event_occurs(self):
        # The first sample is the smallest one without an event.
        edges = [
            (100, 1, 10), (500, 1, 2), (500, 50, 100), (10, 1, 100), (990, 99, 100), (334, 1, 3), (667, 2, 3),
            (250, 25, 100), (143, 1, 7), (986, 68, 69),
        ]
        for sample, numerator, denominator in edges:
            day = (3, numerator, denominator, 4)
            with self.subTest(day=day):
                self.assertEqual(ask_of([day], continue_campaign(sample), SUMMARY), [[0, 3], [1, 1, 0, 3]])
                self.assertEqual(ask_of([day], continue_campaign(sample - 1), SUMMARY), [[1, -4], [1, 1, 1, -4]])

    def test_every_sample(self):
        for numerator, denominator in ((1, 8), (3, 10), (13, 97)):
            for sample in range(0, 1000):
                event = sample * denominator < 1000 * numerator
                told = ask_of([(3, numerator, denominator, 4)], continue_campaign(sample))
                self.assertEqual(told, [[1, -4] if event else [0, 3]])

    def test_probability_0_never_and_1_always(self):
        for sample in (0, 1, 500, 998, 999):
            for denominator in (1, 2, 100):
                with self.subTest(sample=sample, denominator=denominator):
                    told = ask_of([(10, 0, denominator, 50)], continue_campaign(sample), SUMMARY)
                    self.assertEqual(told, [[0, 10], [1, 1, 0, 10]])
                    told = ask_of([(10, denominator, denominator, 50)], continue_campaign(sample), SUMMARY)
                    self.assertEqual(told, [[1, -50], [1, 1, 1, -50]])

    def test_the_total_after_several_days(self):
        days = [(10, 1, 2, 5), (0, 1, 2, 5), (300, 1, 2, 5), (7, 1, 2, 20), (1, 1, 2, 1)]
        told = ask_of(days, NO_EVENT, NO_EVENT, NO_EVENT, EVENT, SUMMARY)
        self.assertEqual(told, [[0, 10], [0, 10], [0, 310], [1, 290], [5, 4, 1, 290]])

    def test_the_least_and_the_greatest_total(self):
        self.assertEqual(ask_of([(1000, 1, 1, 10000)], EVENT), [[1, -10000]])
        self.assertEqual(ask_of([(1000, 0, 1, 10000)] * 10, *[NO_EVENT] * 10)[9], [0, 10000])

    def test_nothing_lost_and_nothing_won(self):
        self.assertEqual(ask_of([(0, 1, 2, 0)] * 2, NO_EVENT, EVENT, SUMMARY), [[0, 0], [1, 0], [2, 2, 1, 0]])

    def test_an_event_after_which_the_total_is_zero(self):
        self.assertEqual(ask_of([(50, 0, 1, 0), (0, 1, 1, 50)], NO_EVENT, NO_EVENT), [[0, 50], [1, 0]])

    def test_the_days_stay_as_they_are(self):
        for call in (EVENT, NO_EVENT):
            answer, before, behind = look_around(creating([DAY, SURE_DAY, SAFE_DAY]), call)
            with self.subTest(call=call):
                self.assertEqual(behind[1:], before[1:])

    def test_goes_through_each_day_in_order(self):
        days = [(2 ** number, 0, 1, 0) for number in range(10)]
        told = ask_of(days, *[continue_campaign(0)] * 10)
        self.assertEqual(told, [[0, 2 ** number - 1] for number in range(1, 11)])

    def test_takes_a_day_that_was_added_behind_the_last(self):
        told = ask_behind(creating([SAFE_DAY], 1), NO_EVENT, add_day(*SURE_DAY), NO_EVENT)
        self.assertEqual(told, [[-33], [1], [1, -40]])

    def test_sample_999_and_samples_past_the_range(self):
        self.assertEqual(ask_of([DAY], continue_campaign(999)), [[0, 10]])
        for sample in (1000, 1001, GREATEST_NUMBER):
            self.check_refused(creating([DAY]), continue_campaign(sample), -22)

    def test_not_running(self):
        for ahead in (ENDED, STOPPED, creating([DAY]) + [STOP]):
            for sample in (0, 999):
                self.check_refused(ahead, continue_campaign(sample), -16)

    def test_no_remaining_days(self):
        for ahead in (creating([]), creating([DAY], 1), creating([DAY] * 10, 10)):
            for sample in (0, 999):
                self.check_refused(ahead, continue_campaign(sample), -33)

    def test_looks_at_the_range_before_the_status(self):
        for ahead in (ENDED, STOPPED, creating([DAY], 1) + [STOP], creating([SURE_DAY], 1)):
            for sample in (1000, GREATEST_NUMBER):
                self.check_refused(ahead, continue_campaign(sample), -22)

    def test_looks_at_the_status_before_the_remaining_days(self):
        for ahead in (creating([]) + [STOP], creating([DAY], 1) + [STOP], creating([SURE_DAY], 1)):
            self.check_refused(ahead, continue_campaign(999), -16)

    def test_looks_at_the_range_before_the_remaining_days(self):
        for ahead in (creating([]), creating([DAY], 1)):
            for sample in (1000, GREATEST_NUMBER):
                self.check_refused(ahead, continue_campaign(sample), -22)


class StopTest(RefusalTest):
    def test_tells_the_total(self):
        self.assertEqual(ask_of([], STOP, SUMMARY), [[0, 0], [0, 0, 2, 0]])
        self.assertEqual(ask_of([DAY], STOP, SUMMARY), [[0, 0], [1, 0, 2, 0]])
        self.assertEqual(ask_behind(RUNNING, STOP, SUMMARY), [[0, 20], [4, 2, 2, 20]])
        self.assertEqual(ask_behind(creating([DAY] * 2, 2), STOP, SUMMARY), [[0, 20], [2, 2, 2, 20]])

    def test_tells_a_negative_total(self):
        # No calls lead here: the total falls by an event alone, and then the campaign is no longer running.
        campaign = program.Campaign()
        campaign.total = -40
        self.assertEqual(program.stop(campaign, []), [0, -40])
        self.assertEqual(program.summary(campaign, []), [0, 0, 2, -40])

    def test_changes_the_status_alone(self):
        answer, before, behind = look_around(RUNNING, STOP)
        self.assertEqual(behind, [[4, 2, 2, 20]] + before[1:])

    def test_refuses_behind_stop(self):
        self.check_refused(STOPPED, STOP, -16)
        self.check_refused(creating([]) + [STOP], STOP, -16)

    def test_refuses_behind_an_event(self):
        self.check_refused(ENDED, STOP, -16)
        self.check_refused(creating([SURE_DAY], 1), STOP, -16)

    def test_is_possible_again_behind_restart(self):
        for ahead in (ENDED, STOPPED):
            with self.subTest(ahead=ahead):
                self.assertEqual(ask_behind(ahead, RESTART, STOP, STOP)[1:], [[0, 0], [-16]])


class RestartTest(unittest.TestCase):
    def test_in_every_status(self):
        for ahead in (RUNNING, ENDED, STOPPED):
            answer, before, behind = look_around(ahead, RESTART)
            with self.subTest(ahead=ahead):
                self.assertEqual(answer, [2])
                self.assertEqual(behind, [[4, 0, 0, 0]] + before[1:])

    def test_tells_the_previous_next_day(self):
        for past in range(11):
            with self.subTest(past=past):
                self.assertEqual(ask_behind(creating([DAY] * 10, past), RESTART, RESTART), [[past], [0]])

    def test_without_days(self):
        told = ask_of([], RESTART, SUMMARY, STOP, RESTART, SUMMARY)
        self.assertEqual(told, [[0], [0, 0, 0, 0], [0, 0], [0], [0, 0, 0, 0]])

    def test_behind_a_negative_total(self):
        self.assertEqual(ask_behind(creating([SURE_DAY], 1), RESTART, SUMMARY), [[1], [1, 0, 0, 0]])

    def test_the_campaign_goes_on_from_the_first_day(self):
        for ended in ([], [STOP], [EVENT]):
            ahead = creating([(1, 1, 2, 5), (2, 1, 2, 5), (4, 1, 2, 5)], 1) + ended
            with self.subTest(ended=ended):
                told = ask_behind(ahead, RESTART, NO_EVENT, NO_EVENT, EVENT)
                self.assertEqual(told[1:], [[0, 1], [0, 3], [1, -2]])


class SummaryTest(unittest.TestCase):
    def test_in_every_status(self):
        self.assertEqual(ask_behind(RUNNING, SUMMARY), [[4, 2, 0, 20]])
        self.assertEqual(ask_behind(ENDED, SUMMARY), [[4, 2, 1, -40]])
        self.assertEqual(ask_behind(STOPPED, SUMMARY), [[4, 2, 2, 20]])

    def test_of_a_new_campaign(self):
        self.assertEqual(ask(CREATE, SUMMARY), [[0], [0, 0, 0, 0]])

    def test_follows_the_days(self):
        told = ask(CREATE, add_day(*DAY), SUMMARY, add_day(*DAY), SUMMARY, REMOVE_LAST_DAY, SUMMARY)
        self.assertEqual(told[2::2], [[1, 0, 0, 0], [2, 0, 0, 0], [1, 0, 0, 0]])

    def test_of_ten_days(self):
        self.assertEqual(ask_behind(creating([SAFE_DAY] * 10, 10), SUMMARY), [[10, 10, 0, 100]])

    def test_after_errors(self):
        wrong = [
            add_day(1001, 0, 1, 0), get_day(4), continue_campaign(1000), set_day(0, 1, 1, 1, 1), plan_value(5),
            value_with_cost(0, 10001),
        ]
        for ahead in (RUNNING, ENDED, STOPPED):
            told = ask_behind(ahead, SUMMARY, *wrong, SUMMARY)
            with self.subTest(ahead=ahead):
                self.assertEqual(told[1:-1], [[-22], [-2], [-22], [-16], [-2], [-22]])
                self.assertEqual(told[-1], told[0])

    def test_after_a_second_create(self):
        for ahead in (RUNNING, ENDED, STOPPED):
            with self.subTest(ahead=ahead):
                told = ask_behind(ahead, CREATE, *LOOK)
                self.assertEqual(told, [[0], [0, 0, 0, 0]] + [[-2]] * 10)

    def test_does_not_change_anything(self):
        for ahead in (RUNNING, ENDED, STOPPED):
            with self.subTest(ahead=ahead):
                answer, before, behind = look_around(ahead, SUMMARY)
                self.assertEqual(behind, before)
                self.assertEqual(answer, before[0])


if __name__ == "__main__":
    unittest.main()
