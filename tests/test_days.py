"""create, add_day, set_day, remove_last_day and get_day."""

import unittest

from tests.asking import (
    CALLS_BUT_CREATE, CREATE, GREATEST_NUMBER, LOOK, REMOVE_LAST_DAY, RESTART, STOP, SUMMARY, VALUE, add_day,
    ask, ask_behind, ask_of, continue_campaign, creating, get_day, look_around, set_day, value_from,
)

DAY = (10, 1, 10, 50)
OTHER_DAY = (7, 2, 4, 9)

IN_RANGE = [
    (0, 1, 10, 50), (1000, 1, 10, 50),
    (10, 0, 1, 50), (10, 1, 1, 50), (10, 1, 100, 50),
    (10, 0, 10, 50), (10, 10, 10, 50), (10, 100, 100, 50),
    (10, 1, 10, 0), (10, 1, 10, 10000),
]

OUT_OF_RANGE = [
    (1001, 1, 10, 50), (GREATEST_NUMBER, 1, 10, 50),
    (10, 11, 10, 50), (10, 2, 1, 50), (10, 101, 100, 50), (10, GREATEST_NUMBER, 10, 50),
    (10, 0, 0, 50), (10, 1, 0, 50), (10, 1, 101, 50), (10, 1, GREATEST_NUMBER, 50),
    (10, GREATEST_NUMBER, GREATEST_NUMBER, 50),
    (10, 1, 10, 10001), (10, 1, 10, GREATEST_NUMBER),
]


class CreateTest(unittest.TestCase):
    def test_answers_0(self):
        self.assertEqual(ask(CREATE), [[0]])

    def test_sets_every_field(self):
        empty = [[0, 0, 0, 0]] + [[-2]] * 10
        self.assertEqual(ask(CREATE, *LOOK), [[0]] + empty)
        for ended in ([], [STOP], [continue_campaign(0)]):
            with self.subTest(ended=ended):
                told = ask_behind(creating([DAY, OTHER_DAY], 1) + ended, CREATE, *LOOK)
                self.assertEqual(told, [[0]] + empty)

    def test_a_new_campaign_has_no_day(self):
        self.assertEqual(ask(CREATE, get_day(0), REMOVE_LAST_DAY, value_from(1)), [[0], [-2], [-6], [-2]])

    def test_a_second_create_replaces_the_campaign(self):
        told = ask(CREATE, add_day(*DAY), add_day(*DAY), CREATE, get_day(0), VALUE, add_day(*OTHER_DAY), get_day(0))
        self.assertEqual(told, [[0], [0], [1], [0], [-2], [0, 0, 1], [0], list(OTHER_DAY)])

    def test_every_other_call_before_create_is_refused(self):
        self.assertEqual(sorted(call[0] for call in CALLS_BUT_CREATE), list(range(1, 20)))
        for call in CALLS_BUT_CREATE:
            with self.subTest(call=call):
                self.assertEqual(ask(call), [[-11]])
                self.assertEqual(ask(call, CREATE, VALUE), [[-11], [0], [0, 0, 1]])

    def test_before_create_nothing_else_of_a_call_is_looked_at(self):
        for call in CALLS_BUT_CREATE:
            wrong = [call[0]] + [GREATEST_NUMBER] * (len(call) - 1)
            zeros = [call[0]] + [0] * (len(call) - 1)
            with self.subTest(call=call[0]):
                self.assertEqual(ask(wrong, zeros, wrong), [[-11]] * 3)

    def test_a_day_added_before_create_is_not_there_behind_it(self):
        self.assertEqual(ask(add_day(*DAY), CREATE, get_day(0)), [[-11], [0], [-2]])


class AddDayTest(unittest.TestCase):
    def test_counts_the_days_from_0(self):
        adding = [add_day(number, 1, 2, 3) for number in range(10)]
        self.assertEqual(ask(CREATE, *adding), [[0]] + [[number] for number in range(10)])

    def test_adds_at_the_end(self):
        self.assertEqual(ask_of([DAY, OTHER_DAY], get_day(0), get_day(1)), [list(DAY), list(OTHER_DAY)])

    def test_takes_both_ends_of_each_range(self):
        for day in IN_RANGE:
            with self.subTest(day=day):
                self.assertEqual(ask(CREATE, add_day(*day), get_day(0)), [[0], [0], list(day)])

    def test_refuses_what_is_past_a_range(self):
        for day in OUT_OF_RANGE:
            with self.subTest(day=day):
                told = ask(CREATE, add_day(*day), get_day(0), add_day(*DAY))
                self.assertEqual(told, [[0], [-22], [-2], [0]])

    def test_refuses_the_eleventh_day(self):
        told = ask_of([DAY] * 10, add_day(*OTHER_DAY), get_day(9), get_day(10))
        self.assertEqual(told, [[-28], list(DAY), [-2]])

    def test_looks_at_the_ranges_before_it_counts_the_days(self):
        for day in OUT_OF_RANGE:
            with self.subTest(day=day):
                self.assertEqual(ask_of([DAY] * 10, add_day(*day)), [[-22]])

    def test_a_tenth_day_can_be_added_again_when_one_was_removed(self):
        told = ask_of([DAY] * 10, REMOVE_LAST_DAY, add_day(*OTHER_DAY), add_day(*DAY), get_day(9))
        self.assertEqual(told, [[9], [9], [-28], list(OTHER_DAY)])

    def test_past_days_count_among_the_ten(self):
        for past in (1, 10):
            with self.subTest(past=past):
                self.assertEqual(ask_behind(creating([DAY] * 10, past), add_day(*DAY)), [[-28]])
                self.assertEqual(ask_behind(creating([DAY] * 9, past - 1), add_day(*DAY)), [[9]])

    def test_is_possible_in_every_status(self):
        running = creating([DAY], 1)
        stopped = running + [STOP]
        ended = creating([DAY]) + [continue_campaign(0)]
        for status, ahead in enumerate([running, ended, stopped]):
            with self.subTest(status=status):
                told = ask_behind(ahead, SUMMARY, add_day(*OTHER_DAY), get_day(1), SUMMARY)
                total = told[0][3]
                self.assertEqual(told, [[1, 1, status, total], [1], list(OTHER_DAY), [2, 1, status, total]])

    def test_refuses_in_every_status(self):
        for ended in ([], [STOP], [continue_campaign(0)]):
            with self.subTest(ended=ended):
                answer, before, behind = look_around(creating([DAY] * 2, 1) + ended, add_day(*OUT_OF_RANGE[0]))
                self.assertEqual(answer, [-22])
                self.assertEqual(behind, before)


class SetDayTest(unittest.TestCase):
    def test_replaces_that_day_alone(self):
        told = ask_of([DAY] * 3, set_day(1, *OTHER_DAY), get_day(0), get_day(1), get_day(2), get_day(3))
        self.assertEqual(told, [[0], list(DAY), list(OTHER_DAY), list(DAY), [-2]])

    def test_the_value_is_that_of_the_new_day(self):
        self.assertEqual(ask_of([DAY], set_day(0, 30, 0, 1, 0), VALUE), [[0], [0, 30, 1]])

    def test_takes_both_ends_of_each_range(self):
        for day in IN_RANGE:
            with self.subTest(day=day):
                self.assertEqual(ask_of([OTHER_DAY], set_day(0, *day), get_day(0)), [[0], list(day)])

    def test_refuses_what_is_past_a_range_and_leaves_the_day(self):
        for day in OUT_OF_RANGE:
            with self.subTest(day=day):
                self.assertEqual(ask_of([DAY], set_day(0, *day), get_day(0)), [[-22], list(DAY)])

    def test_refuses_a_day_that_does_not_exist(self):
        self.assertEqual(ask_of([], set_day(0, *DAY), get_day(0)), [[-2], [-2]])
        for day in (2, 3, 10, GREATEST_NUMBER):
            with self.subTest(day=day):
                told = ask_of([DAY] * 2, set_day(day, *OTHER_DAY), get_day(0), get_day(1), get_day(2))
                self.assertEqual(told, [[-2], list(DAY), list(DAY), [-2]])

    def test_looks_for_the_day_before_the_ranges(self):
        for day in OUT_OF_RANGE:
            with self.subTest(day=day):
                self.assertEqual(ask_of([DAY], set_day(1, *day)), [[-2]])

    def test_refuses_a_past_day_and_leaves_it(self):
        for past in (1, 2, 3):
            for day in range(past):
                with self.subTest(past=past, day=day):
                    answer, before, behind = look_around(creating([DAY] * 3, past), set_day(day, *OTHER_DAY))
                    self.assertEqual(answer, [-16])
                    self.assertEqual(behind, before)
                    self.assertEqual(before[0], [3, past, 0, 10 * past])

    def test_takes_the_next_day_and_those_behind_it(self):
        for day in (2, 3):
            with self.subTest(day=day):
                answer, before, behind = look_around(creating([DAY] * 4, 2), set_day(day, *OTHER_DAY))
                self.assertEqual(answer, [0])
                changed = list(before)
                changed[1 + day] = list(OTHER_DAY)
                self.assertEqual(behind, changed)

    def test_is_possible_in_every_status(self):
        for status, ended in enumerate([[], [continue_campaign(0)], [STOP]]):
            ahead = creating([DAY] * 3, 1) + ended
            with self.subTest(status=status):
                told = ask_behind(ahead, SUMMARY, set_day(2, *OTHER_DAY), get_day(2), set_day(0, *OTHER_DAY))
                self.assertEqual(told[0][2], status)
                self.assertEqual(told[1:], [[0], list(OTHER_DAY), [-16]])

    def test_looks_at_the_ranges_before_the_next_day(self):
        for day in OUT_OF_RANGE:
            with self.subTest(day=day):
                self.assertEqual(ask_behind(creating([DAY] * 2, 1), set_day(0, *day)), [[-22]])

    def test_looks_for_the_day_before_the_next_day(self):
        self.assertEqual(ask_behind(creating([DAY] * 2, 2), set_day(2, *DAY), set_day(1, *DAY)), [[-2], [-16]])

    def test_a_past_day_can_be_set_again_behind_restart(self):
        told = ask_behind(creating([DAY] * 2, 2), set_day(0, *OTHER_DAY), RESTART, set_day(0, *OTHER_DAY), get_day(0))
        self.assertEqual(told, [[-16], [2], [0], list(OTHER_DAY)])


class RemoveLastDayTest(unittest.TestCase):
    def test_answers_how_many_days_are_left(self):
        told = ask_of([DAY, OTHER_DAY], REMOVE_LAST_DAY, get_day(0), get_day(1), REMOVE_LAST_DAY, get_day(0))
        self.assertEqual(told, [[1], list(DAY), [-2], [0], [-2]])

    def test_counts_down_from_ten(self):
        told = ask_of([DAY] * 10, *[REMOVE_LAST_DAY] * 11)
        self.assertEqual(told, [[left] for left in range(9, -1, -1)] + [[-6]])

    def test_refuses_where_no_day_remains(self):
        self.assertEqual(ask_of([], REMOVE_LAST_DAY, REMOVE_LAST_DAY, add_day(*DAY)), [[-6], [-6], [0]])

    def test_leaves_past_days(self):
        removing = [REMOVE_LAST_DAY] * 3
        told = ask_behind(creating([DAY] * 4, 2), *removing, SUMMARY, add_day(*DAY), *removing[1:])
        self.assertEqual(told, [[3], [2], [-6], [2, 2, 0, 20], [2], [2], [-6]])

    def test_a_refusal_changes_nothing(self):
        answer, before, behind = look_around(creating([DAY] * 2, 2), REMOVE_LAST_DAY)
        self.assertEqual(answer, [-6])
        self.assertEqual(behind, before)

    def test_is_possible_in_every_status(self):
        for status, ended in enumerate([[], [continue_campaign(0)], [STOP]]):
            ahead = creating([DAY] * 3, 1) + ended
            left = 3 - (2 if status == 1 else 1)
            with self.subTest(status=status):
                told = ask_behind(ahead, SUMMARY, *[REMOVE_LAST_DAY] * left, REMOVE_LAST_DAY)
                self.assertEqual(told[0][2], status)
                self.assertEqual(told[1:], [[count] for count in range(2, 2 - left, -1)] + [[-6]])


class GetDayTest(unittest.TestCase):
    def test_tells_the_fields_in_their_order(self):
        self.assertEqual(ask_of([(3, 1, 2, 4)], get_day(0)), [[3, 1, 2, 4]])

    def test_does_not_reduce_the_probability(self):
        for day in ((5, 2, 4, 6), (5, 0, 100, 6), (5, 100, 100, 6), (5, 50, 100, 6)):
            with self.subTest(day=day):
                self.assertEqual(ask_of([day], VALUE, get_day(0))[1], list(day))

    def test_refuses_a_day_that_does_not_exist(self):
        self.assertEqual(ask_of([], get_day(0), get_day(GREATEST_NUMBER)), [[-2], [-2]])
        self.assertEqual(ask_of([DAY] * 10, get_day(9), get_day(10), get_day(11)), [list(DAY), [-2], [-2]])

    def test_tells_past_days_too(self):
        told = ask_behind(creating([DAY, OTHER_DAY], 2), get_day(0), get_day(1), get_day(2))
        self.assertEqual(told, [list(DAY), list(OTHER_DAY), [-2]])


if __name__ == "__main__":
    unittest.main()
