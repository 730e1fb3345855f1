"""How calls stand in the list that is handed in, and answers in the one that is given back."""

import unittest

from haltdays.campaign import answers
from tests.asking import CALLS_BUT_CREATE, GREATEST_NUMBER

CREATE_AND_TWO_DAYS = [0, 1, 10, 1, 10, 50, 1, 10, 1, 2, 50]


class AnswersTest(unittest.TestCase):
    def test_each_answer_has_its_count_ahead_of_it(self):
        calls = CREATE_AND_TWO_DAYS + [4, 1, 5, 6, 1, 7, 2, 8, 9, 2, 0, 3, 0, 1, 9, 3]
        expected = [1, 0, 1, 0, 1, 1] + [4, 10, 1, 2, 50] + [3, 0, 4, 1] + [3, 0, 0, 1] + [3, 0, -14, 1] + [1, 1, 1, 1]
        self.assertEqual(answers(calls), expected + [1, 0, 1, 1])

    def test_a_refusal_counts_one_number(self):
        calls = [5, 0, 4, 0, 6, 1, 7, 1, 3, 1, 1001, 0, 1, 0, 2, 0, 1, 0, 1, 0]
        self.assertEqual(answers(calls), [1, -11, 1, 0, 1, -2, 1, -2, 1, -2, 1, -6, 1, -22, 1, -2])

    def test_each_kind_of_call_is_as_long_as_it_is_told(self):
        # Before create every call answers -11, so a wrong length shows in the count of the answers.
        calls = [number for call in CALLS_BUT_CREATE for number in call]
        self.assertEqual(answers(calls + [0] + calls[:5]), [1, -11] * 19 + [1, 0, 1, 0])

    def test_arguments_that_look_like_calls(self):
        calls = [0, 1, 0, 0, 1, 0, 1, 8, 8, 9, 9, 4, 0, 4, 1]
        self.assertEqual(answers(calls), [1, 0, 1, 0, 1, 1, 4, 0, 0, 1, 0, 4, 8, 8, 9, 9])

    def test_create_alone(self):
        self.assertEqual(answers([0]), [1, 0])

    def test_a_refused_call_changes_nothing(self):
        refused = [
            1, 1001, 1, 10, 50, 2, 0, 10, 1, 0, 50, 2, 2, 10, 1, 10, 50, 4, 2, 6, 3, 7, 3,
            1, 0, 0, GREATEST_NUMBER, 0,
        ]
        asking = [4, 0, 4, 1, 5, 6, 1, 7, 2, 8, 9]
        untouched = answers(CREATE_AND_TWO_DAYS + asking)
        told = answers(CREATE_AND_TWO_DAYS + refused + asking)
        self.assertEqual(told[6:20], [1, -22, 1, -22, 1, -2, 1, -2, 1, -2, 1, -2, 1, -22])
        self.assertEqual(told[20:], untouched[6:])

    def test_asking_changes_nothing(self):
        asking = [4, 0, 4, 1, 5, 6, 1, 7, 2, 8, 9]
        once = answers(CREATE_AND_TWO_DAYS + asking)[6:]
        self.assertEqual(answers(CREATE_AND_TWO_DAYS + asking * 3)[6:], once * 3)

    def test_the_list_handed_in_is_not_changed(self):
        calls = CREATE_AND_TWO_DAYS + [2, 0, 1, 0, 1, 0, 3, 5, 6, 0, 7, 1, 8, 9, 4, 0, 0, 5]
        before = list(calls)
        answers(calls)
        self.assertEqual(calls, before)

    def test_requests_do_not_touch_each_other(self):
        first = answers(CREATE_AND_TWO_DAYS + [5])
        self.assertEqual(answers([5, 4, 0]), [1, -11, 1, -11])
        self.assertEqual(answers([0, 4, 0, 5]), [1, 0, 1, -2, 3, 0, 0, 1])
        self.assertEqual(answers(CREATE_AND_TWO_DAYS + [5]), first)

    def test_the_list_given_back_is_a_new_one(self):
        calls = CREATE_AND_TWO_DAYS + [5]
        first = answers(calls)
        first.append(7)
        self.assertEqual(answers(calls), [1, 0, 1, 0, 1, 1, 3, 0, 4, 1])

    def test_200_calls(self):
        days = [1, 1000, 1, 97, 10000] * 10
        calls = [0] + days + [5, 8, 9] * 63
        told = answers(calls)
        self.assertEqual(told[:22], [1, 0] + [number for day in range(10) for number in (1, day)])
        once = told[22:30]
        self.assertEqual(once[0:2] + once[4:], [3, 0, 1, 10, 1, 10])
        self.assertEqual(told[22:], once * 63)

    def test_200_creates(self):
        self.assertEqual(answers([0] * 200), [1, 0] * 200)

    def test_1200_numbers(self):
        calls = [0, 1, 1, 0, 1, 0] + [2, 0, 5, 0, 1, 0] * 198
        self.assertEqual(answers(calls), [1, 0, 1, 0] + [1, 0] * 198)

    def test_only_whole_numbers_are_given_back(self):
        told = answers(CREATE_AND_TWO_DAYS + [4, 0, 5, 6, 0, 7, 1, 8, 9, 4, 7, 3])
        self.assertEqual({type(number) for number in told}, {int})
        self.assertIs(type(told), list)


if __name__ == "__main__":
    unittest.main()
