"""How calls and answers are told in one list."""

import unittest

from grouptable.group import answers
from tests.tables import (BEGIN, CLASSES, ORDER, PRIME, call_class, call_size, call_table, cyclic, line, singles,
                          symmetric)

MIXED = line(call_table(symmetric(3)), ORDER, PRIME, CLASSES, call_class(5), call_size(9), call_table([0, 0]), BEGIN,
             ORDER)
MIXED_ANSWERS = singles([0, 6, 6, 13, 3, 1, -1, -1, 0, 1])


class Interface(unittest.TestCase):
    def test_no_calls(self):
        self.assertEqual(answers([]), [])

    def test_each_answer_has_its_count_ahead(self):
        self.assertEqual(answers([0]), [1, 0])
        self.assertEqual(answers([0, 2]), [1, 0, 1, 1])
        self.assertEqual(answers([0, 1, 1, 0, 3]), [1, 0, 1, 1, 1, 3])

    def test_calls_of_all_sorts_in_one_list(self):
        self.assertEqual(answers(MIXED), MIXED_ANSWERS)

    def test_numbers_are_plain_and_in_a_list(self):
        told = answers(MIXED)
        self.assertIs(type(told), list)
        self.assertEqual({type(number) for number in told}, {int})

    def test_hundred_calls(self):
        calls = [BEGIN] + [ORDER, PRIME, CLASSES] * 33
        self.assertEqual(answers(sum(calls, [])), singles([0] + [1, 3, 1] * 33))

    def test_as_many_numbers_as_a_list_may_have(self):
        calls = line(*[call_table(cyclic(24))] * 51, *[ORDER] * 48)
        self.assertLessEqual(len(calls), 30000)
        self.assertEqual(answers(calls), singles([0] + [24] * 99))

    def test_an_empty_table_takes_no_number_of_the_next_call(self):
        self.assertEqual(answers([0, 1, 0, 2, 3]), singles([0, -1, 1, 3]))

    def test_what_is_handed_in_stays(self):
        calls = list(MIXED)
        answers(calls)
        self.assertEqual(calls, MIXED)

    def test_what_is_given_back_is_new(self):
        first = answers(MIXED)
        first.clear()
        self.assertEqual(answers(MIXED), MIXED_ANSWERS)

    def test_nothing_is_kept_from_one_time_to_the_next(self):
        self.assertEqual(answers(MIXED), answers(MIXED))
        answers(line(call_table(cyclic(7))))
        self.assertEqual(answers(ORDER + PRIME + CLASSES), singles([1, 3, 1]))


if __name__ == "__main__":
    unittest.main()
