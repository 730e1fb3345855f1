"""How calls stand in the list that is handed in, and answers in the one that is given back."""

import unittest

from haltdays.campaign import answers
from tests.asking import CALLS_BUT_CREATE, GREATEST_NUMBER, answers_by_the_document, ask, mixed_numbers

CREATE_AND_TWO_DAYS = [0, 1, 10, 1, 10, 50, 1, 10, 1, 2, 50]

# What is asked of a campaign with two days: every call that changes nothing.
ASKING = [4, 0, 4, 1, 5, 6, 1, 7, 2, 8, 9, 10, 1, 11, 12, 2, 16, 0, 17, 1, 3, 18, 19]

# How many numbers each call has behind its own.
COUNTS = [0, 4, 5, 0, 1, 0, 1, 1, 0, 0, 1, 0, 1, 1, 0, 0, 1, 2, 0, 0]

# The codes that each call may be answered with behind create.
CODES = {
    1: [-22, -28], 2: [-2, -22, -16], 3: [-6], 4: [-2], 6: [-2], 7: [-2], 10: [-2], 12: [-2], 13: [-22, -16, -33],
    14: [-16], 16: [-2, -33], 17: [-2, -22],
}


def mixed_fields(numbers):
    """The fields of a day, now and then one that is out of its range."""
    denominator = (1, 1, 2, 3, 10, 97, 100, 101, 0)[next(numbers) % 9]
    numerator = next(numbers) % (denominator + 1) // (1 + next(numbers) % 5)
    if next(numbers) % 30 == 0:
        numerator = denominator + 1
    gain = (0, 1, 10, 300, 1000, 1001)[next(numbers) % 6]
    cost = (0, 1, 7, 50, 900, 10000, 10001)[next(numbers) % 7]
    return [gain, numerator, denominator, cost]


def mixed_number(numbers):
    """The number of a call: often one that adds a day or goes on, seldom create."""
    if next(numbers) % 150 == 0:
        return 0
    return (list(range(1, 20)) + [1] * 10 + [13] * 8 + [15] * 2)[next(numbers) % 39]


def mixed_call(number, numbers):
    if number == 1:
        return [1] + mixed_fields(numbers)
    if number == 13:
        return [13, (0, 9, 10, 330, 500, 900, 999, 999, 999, 1000, GREATEST_NUMBER)[next(numbers) % 11]]
    call = [number]
    if COUNTS[number] > 0:
        call.append(GREATEST_NUMBER if next(numbers) % 40 == 0 else next(numbers) % 12)
    if number == 2:
        call += mixed_fields(numbers)
    if number == 17:
        call.append((0, 1, 40, 1000, 10000, 10001)[next(numbers) % 6])
    return call


def mixed_calls(seed):
    """200 calls over all operations, of which the first few come ahead of create."""
    numbers = mixed_numbers(seed)
    calls = [mixed_call(mixed_number(numbers), numbers) for _ in range(181)]
    calls[seed % 5] = [0]
    return calls + [mixed_call(number, numbers) for number in range(1, 20)]


class AnswersTest(unittest.TestCase):
    def test_each_answer_has_its_count_ahead_of_it(self):
        calls = CREATE_AND_TWO_DAYS + [4, 1, 5, 6, 1, 7, 2, 8, 9, 2, 0, 3, 0, 1, 9, 3]
        expected = [1, 0, 1, 0, 1, 1] + [4, 10, 1, 2, 50] + [3, 0, 4, 1] + [3, 0, 0, 1] + [3, 0, -14, 1] + [1, 1, 1, 1]
        self.assertEqual(answers(calls), expected + [1, 0, 1, 1])

    def test_a_refusal_counts_one_number(self):
        calls = [5, 0, 4, 0, 6, 1, 7, 1, 3, 1, 1001, 0, 1, 0, 2, 0, 1, 0, 1, 0]
        self.assertEqual(answers(calls), [1, -11, 1, 0, 1, -2, 1, -2, 1, -2, 1, -6, 1, -22, 1, -2])

    def test_each_kind_of_call_is_as_long_as_it_is_told(self):
        # Before create every call answers -11, so a wrong length shows in the count of the answers.
        calls = [number for call in CALLS_BUT_CREATE for number in call]
        self.assertEqual(answers(calls + [0] + calls[:5]), [1, -11] * 19 + [1, 0, 1, 0])

    def test_arguments_that_look_like_calls(self):
        calls = [0, 1, 0, 0, 1, 0, 1, 8, 8, 9, 9, 4, 0, 4, 1]
        self.assertEqual(answers(calls), [1, 0, 1, 0, 1, 1, 4, 0, 0, 1, 0, 4, 8, 8, 9, 9])

    def test_create_alone(self):
        self.assertEqual(answers([0]), [1, 0])

    def test_a_refused_call_changes_nothing(self):
        refused = [
            1, 1001, 1, 10, 50, 2, 0, 10, 1, 0, 50, 2, 2, 10, 1, 10, 50, 4, 2, 6, 3, 7, 3,
            1, 0, 0, GREATEST_NUMBER, 0, 10, 2, 12, 3, 13, 1000, 16, 2, 17, 2, 3, 17, 1, 10001,
        ]
        untouched = answers(CREATE_AND_TWO_DAYS + ASKING)
        told = answers(CREATE_AND_TWO_DAYS + refused + ASKING)
        codes = [-22, -22, -2, -2, -2, -2, -22, -2, -2, -22, -2, -2, -22]
        self.assertEqual(told[6:6 + 2 * len(codes)], [number for code in codes for number in (1, code)])
        self.assertEqual(told[6 + 2 * len(codes):], untouched[6:])

    def test_asking_changes_nothing(self):
        once = answers(CREATE_AND_TWO_DAYS + ASKING)[6:]
        self.assertEqual(answers(CREATE_AND_TWO_DAYS + ASKING * 3)[6:], once * 3)

    def test_the_list_handed_in_is_not_changed(self):
        calls = CREATE_AND_TWO_DAYS + [2, 0, 1, 0, 1, 0] + ASKING + [13, 999, 13, 0, 14, 15, 14, 3, 1, 1, 1, 1, 1, 0, 5]
        before = list(calls)
        answers(calls)
        self.assertEqual(calls, before)

    def test_requests_do_not_touch_each_other(self):
        first = answers(CREATE_AND_TWO_DAYS + [5])
        self.assertEqual(answers([5, 4, 0]), [1, -11, 1, -11])
        self.assertEqual(answers([0, 4, 0, 5]), [1, 0, 1, -2, 3, 0, 0, 1])
        self.assertEqual(answers(CREATE_AND_TWO_DAYS + [5]), first)

    def test_the_list_given_back_is_a_new_one(self):
        calls = CREATE_AND_TWO_DAYS + [5]
        first = answers(calls)
        first.append(7)
        self.assertEqual(answers(calls), [1, 0, 1, 0, 1, 1, 3, 0, 4, 1])

    def test_200_calls(self):
        days = [1, 1000, 1, 97, 10000] * 10
        calls = [0] + days + [5, 8, 9] * 63
        told = answers(calls)
        self.assertEqual(told[:22], [1, 0] + [number for day in range(10) for number in (1, day)])
        once = told[22:30]
        self.assertEqual(once[0:2] + once[4:], [3, 0, 1, 10, 1, 10])
        self.assertEqual(told[22:], once * 63)

    def test_200_creates(self):
        self.assertEqual(answers([0] * 200), [1, 0] * 200)

    def test_1200_numbers(self):
        calls = [0, 1, 1, 0, 1, 0] + [2, 0, 5, 0, 1, 0] * 198
        self.assertEqual(answers(calls), [1, 0, 1, 0] + [1, 0] * 198)

    def test_only_whole_numbers_are_given_back(self):
        told = answers(CREATE_AND_TWO_DAYS + ASKING + [4, 7, 13, 999, 13, 0, 19, 14, 15, 14, 3])
        self.assertEqual({type(number) for number in told}, {int})
        self.assertIs(type(told), list)


class WholeDocumentTest(unittest.TestCase):
    def test_the_documents_session(self):
        calls = [
            0, 1, 10, 1, 10, 50, 1, 10, 1, 2, 50, 10, 0, 10, 1, 5, 8, 16, 0, 13, 500, 13, 400, 14,
        ]
        expected = [
            1, 0, 1, 0, 1, 1, 3, 0, 4, 1, 3, 0, -20, 1, 3, 0, 4, 1, 1, 1, 1, 89, 2, 0, 10, 2, 1, -40, 1, -16,
        ]
        self.assertEqual(answers(calls), expected)

    def test_each_call_stands_in_the_list_as_told(self):
        calls = CREATE_AND_TWO_DAYS + ASKING + [13, 400, 19, 14, 19, 15, 3]
        expected = [
            1, 0, 1, 0, 1, 1, 4, 10, 1, 10, 50, 4, 10, 1, 2, 50, 3, 0, 4, 1, 3, 0, 0, 1, 3, 0, -14, 1, 1, 1, 1, 1,
            3, 0, -20, 1, 1, 1, 3, 0, 9, 20, 1, 89, 3, 0, 143, 20, 1, 1, 4, 2, 0, 0, 0,
            2, 0, 10, 4, 2, 1, 0, 10, 2, 0, 10, 4, 2, 1, 2, 10, 1, 1, 1, 1,
        ]
        self.assertEqual(answers(calls), expected)

    def test_200_calls_over_all_twenty_operations(self):
        asked = {}
        for seed in range(60):
            calls = mixed_calls(seed)
            numbers = [number for call in calls for number in call]
            handed_in = list(numbers)
            told = answers(numbers)
            expected = answers_by_the_document(calls)
            with self.subTest(seed=seed):
                self.assertEqual(len(calls), 200)
                self.assertEqual({call[0] for call in calls}, set(range(20)))
                self.assertEqual(numbers, handed_in)
                self.assertEqual(told, [number for answer in expected for number in [len(answer)] + answer])
            for call, answer in zip(calls, ask(*calls)):
                asked.setdefault(call[0], set()).add(min(answer[0], 0))
        # So that nothing is left out unseen: each call is answered with each of its codes, and without one.
        for number in range(20):
            with self.subTest(number=number):
                self.assertEqual(asked[number] - {-11}, {0, *CODES.get(number, [])})


if __name__ == "__main__":
    unittest.main()
