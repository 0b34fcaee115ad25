"""How calls and answers are told in one list."""

import unittest

from grouptable.group import answers
from tests.tables import (BEGIN, CLASSES, ORDER, PRIME, SOLVABLE, ask, call_character, call_class, call_kind,
                          call_pairs, call_roots, call_size, call_table, call_ways, classes_by_their_words, cyclic,
                          dihedral, direct, doubled_away, in_parts, line, side, singles, special_linear, strewn,
                          symmetric)

MIXED = line(call_table(symmetric(3)), ORDER, PRIME, CLASSES, call_class(5), call_size(9), call_character(2, 2),
             call_kind(2), call_ways(1, 1, 3), call_pairs(4), call_roots(0, 2), SOLVABLE, call_character(3, 2),
             call_table([0, 0]), BEGIN, ORDER)
MIXED_ANSWERS = (singles([0, 6, 6, 13, 3, 1, -1]) + [3, 3, 2, 0]
                 + singles([1, 3, 9, 4, 1, -1, -1, 0, 1]))

# By how many classes they have.
LARGE = {
    (24, 24): strewn(cyclic(24), 5),
    (16, 16): doubled_away(4),
    (24, 5): symmetric(4),
    (24, 7): special_linear(3),
    (24, 12): direct(cyclic(4), symmetric(3)),
    (24, 15): direct(cyclic(3), dihedral(4)),
}


def calls_about(t, turn):
    """A call of each sort but begin and table; which numbers it has depends on the turn."""
    classes = len(classes_by_their_words(t))
    a, i, j = turn % side(t), turn % classes, (turn + 1) % classes
    return [ORDER, PRIME, CLASSES, call_class(a), call_size(i), call_character(i, 64), call_kind(j), call_ways(i, j, a),
            call_pairs(a), call_roots(a, turn), SOLVABLE]


class Interface(unittest.TestCase):
    def test_no_calls(self):
        self.assertEqual(answers([]), [])

    def test_each_answer_has_its_count_ahead(self):
        self.assertEqual(answers([0]), [1, 0])
        self.assertEqual(answers([0, 2]), [1, 0, 1, 1])
        self.assertEqual(answers([0, 1, 1, 0, 3]), [1, 0, 1, 1, 1, 3])

    def test_calls_of_all_sorts_in_one_list(self):
        self.assertEqual(answers(MIXED), MIXED_ANSWERS)

    def test_numbers_are_plain_and_in_a_list(self):
        told = answers(MIXED)
        self.assertIs(type(told), list)
        self.assertEqual({type(number) for number in told}, {int})

    def test_numbers_that_a_character_has_behind_it_have_no_count_of_their_own(self):
        calls = line(call_table(cyclic(2)), call_character(1, 2), call_character(1, 1), call_character(1, 0),
                     call_character(2, 2), ORDER)
        self.assertEqual(answers(calls), [1, 0, 1, 2, 3, 2, 1, 4, 2, 2, 1, 1, 2, 1, -1, 1, 2])

    def test_hundred_calls(self):
        calls = [BEGIN] + [ORDER, PRIME, CLASSES] * 33
        self.assertEqual(answers(sum(calls, [])), singles([0] + [1, 3, 1] * 33))

    def test_as_many_numbers_as_a_list_may_have(self):
        calls = line(*[call_table(cyclic(24))] * 51, *[ORDER] * 48)
        self.assertLessEqual(len(calls), 30000)
        self.assertEqual(answers(calls), singles([0] + [24] * 99))

    def test_an_empty_table_takes_no_number_of_the_next_call(self):
        self.assertEqual(answers([0, 1, 0, 2, 3]), singles([0, -1, 1, 3]))

    def test_what_is_handed_in_stays(self):
        calls = list(MIXED)
        answers(calls)
        self.assertEqual(calls, MIXED)

    def test_what_is_given_back_is_new(self):
        first = answers(MIXED)
        first.clear()
        self.assertEqual(answers(MIXED), MIXED_ANSWERS)

    def test_nothing_is_kept_from_one_time_to_the_next(self):
        self.assertEqual(answers(MIXED), answers(MIXED))
        answers(line(call_table(cyclic(7))))
        self.assertEqual(answers(ORDER + PRIME + CLASSES), singles([1, 3, 1]))


class Whole(unittest.TestCase):
    def test_the_groups_have_these_classes(self):
        for (things, classes), t in LARGE.items():
            self.assertEqual((side(t), len(classes_by_their_words(t))), (things, classes))

    def test_hundred_calls_of_all_sorts(self):
        calls, expected = [BEGIN], [[0]]
        for turn, t in enumerate(list(LARGE.values()) + list(LARGE.values())[:2]):
            about = calls_about(t, turn + 3)
            calls += [call_table(t)] + about
            expected += [[side(t)]] + [part for call in about for part in ask(t, [call])]
        calls += [BEGIN, ORDER, SOLVABLE]
        expected += [[0], [1], [1]]
        self.assertEqual(len(calls), 100)
        self.assertEqual({call[0] for call in calls}, set(range(13)))
        self.assertEqual(in_parts(answers(sum(calls, []))), expected)

    def test_groups_taken_again_and_again(self):
        calls, expected = [BEGIN], [[0]]
        tables = list(LARGE.values())
        for turn in range(49):
            t = tables[turn % len(tables)]
            call = call_character(turn % len(classes_by_their_words(t)), 64)
            calls += [call_table(t), call]
            expected += [[side(t)]] + ask(t, [call])
        numbers = sum(calls + [SOLVABLE], [])
        self.assertLessEqual(len(numbers), 30000)
        handed = list(numbers)
        self.assertEqual(in_parts(answers(handed)), expected + [[1]])
        self.assertEqual(handed, numbers)
        self.assertEqual(in_parts(answers(handed)), expected + [[1]])

    def test_a_refused_table_changes_nothing(self):
        for t in LARGE.values():
            about = calls_about(t, 5)
            told = ask(t, about)
            for refused in ([], [1], [0, 0], t[:-1], t[:-1] + [(t[-1] + 1) % side(t)], [0] * len(t)):
                self.assertEqual(ask(t, [call_table(refused)] + about), [[-1]] + told)
                self.assertEqual(ask(t, about + [call_table(refused)] + about), told + [[-1]] + told)

    def test_refused_calls_change_nothing(self):
        for t in LARGE.values():
            about = calls_about(t, 7)
            told = ask(t, about)
            refused = [call_class(-1), call_size(-1), call_character(-1, 64), call_kind(-1), call_ways(-1, 0, 0),
                       call_pairs(-1), call_roots(0, -1)]
            self.assertEqual(ask(t, refused + about), [[-1]] * 7 + told)


if __name__ == "__main__":
    unittest.main()
