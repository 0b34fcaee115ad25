"""Points 1 to 4: begin, table, order and prime."""

import unittest
from itertools import product

from grouptable.group import answers
from tests.tables import (BEGIN, CLASSES, ORDER, PRIME, all_groups, call_class, call_size, call_table, cyclic,
                          doubled_away, line, prime_by_its_words, renamed, side, singles, symmetric)

ABOUT_THE_GROUP = ORDER + PRIME + CLASSES + call_class(1) + call_class(4) + call_size(0) + call_size(1)
ABOUT_LONE = [1, 3, 1, -1, -1, 1, -1]
ABOUT_SIX = [6, 13, 3, 1, 2, 1, 3]
SIX = renamed(symmetric(3), [0, 1, 2, 4, 5, 3])


def greatest_things(k):
    """Products that are the greater of two: all of a group's laws but inverses."""
    return [max(a, b) for a in range(k) for b in range(k)]


def switched(k):
    """A cyclic table of k things, k even, with four numbers away from 0 changed crosswise.

    Every number is still once in each row and each column.
    """
    half = k // 2
    t = cyclic(k)
    for a, b in product((1, 1 + half), repeat=2):
        t[a * k + b] = (t[a * k + b] + half) % k
    return t


def squares_of_rows(k):
    """All tables in which 0 changes nothing and every number is once in each row and each column."""
    found = []

    def fill(t, place):
        while place < k * k and t[place] is not None:
            place += 1
        if place == k * k:
            found.append(list(t))
            return
        a, b = divmod(place, k)
        used = t[a * k:a * k + k] + t[b::k]
        for number in range(k):
            if number not in used:
                t[place] = number
                fill(t, place + 1)
        t[place] = None

    fill([a + b if a == 0 or b == 0 else None for a in range(k) for b in range(k)], 0)
    return found


def taken(tables):
    """Those of the tables that are taken, asked in lists of at most 100 calls."""
    some = []
    for start in range(0, len(tables), 90):
        batch = tables[start:start + 90]
        told = answers(line(*[call_table(t) for t in batch]))[3::2]
        some.extend(t for t, answer in zip(batch, told) if answer != -1)
    return some


class Begin(unittest.TestCase):
    def test_the_group_of_0_alone(self):
        self.assertEqual(answers(line(ABOUT_THE_GROUP)), singles([0] + ABOUT_LONE))

    def test_begin_again(self):
        calls = line(call_table(SIX), ABOUT_THE_GROUP, BEGIN, ABOUT_THE_GROUP)
        self.assertEqual(answers(calls), singles([0, 6] + ABOUT_SIX + [0] + ABOUT_LONE))

    def test_begin_again_and_again(self):
        calls = line(BEGIN, BEGIN, call_table(cyclic(2)), BEGIN, ORDER, call_table(cyclic(3)), ORDER)
        self.assertEqual(answers(calls), singles([0, 0, 0, 2, 0, 1, 3, 3]))


class TakenTables(unittest.TestCase):
    def test_groups_by_hand(self):
        one = [0]
        two = [0, 1, 1, 0]
        three = [0, 1, 2, 1, 2, 0, 2, 0, 1]
        four = [0, 1, 2, 3, 1, 0, 3, 2, 2, 3, 0, 1, 3, 2, 1, 0]
        calls = line(call_table(one), call_table(two), call_table(three), call_table(four))
        self.assertEqual(answers(calls), singles([0, 1, 2, 3, 4]))

    def test_a_table_and_the_same_with_rows_as_columns(self):
        k = 6
        t = symmetric(3)
        turned = [t[b * k + a] for a in range(k) for b in range(k)]
        self.assertNotEqual(t, turned)
        self.assertEqual(answers(line(call_table(t), call_table(turned))), singles([0, 6, 6]))

    def test_all_groups(self):
        for name, t in all_groups().items():
            with self.subTest(name):
                k = side(t)
                self.assertEqual(answers(line(call_table(t), ORDER)), singles([0, k, k]))

    def test_one_group_behind_another(self):
        calls = line(call_table(cyclic(24)), ORDER, call_table(cyclic(2)), ORDER, call_table(symmetric(4)), ORDER)
        self.assertEqual(answers(calls), singles([0, 24, 24, 2, 2, 24, 24]))


class RefusedTables(unittest.TestCase):
    def check_refused(self, t):
        calls = line(call_table(t), ABOUT_THE_GROUP)
        self.assertEqual(answers(calls), singles([0, -1] + ABOUT_LONE), t)
        calls = line(call_table(SIX), call_table(t), ABOUT_THE_GROUP)
        self.assertEqual(answers(calls), singles([0, 6, -1] + ABOUT_SIX), t)

    def test_empty(self):
        self.check_refused([])

    def test_lengths_that_are_no_square(self):
        for length in range(1, 577):
            if round(length ** 0.5) ** 2 != length:
                self.check_refused([0] * length)

    def test_a_group_with_too_few_or_too_many_numbers(self):
        for k in (2, 3, 6, 23):
            self.check_refused(cyclic(k)[:-1])
            self.check_refused(cyclic(k) + [0])
        self.check_refused(cyclic(24)[:-1])

    def test_numbers_that_are_too_great(self):
        for number in (1, 2, 255):
            self.check_refused([number])
        for k in (2, 6, 24):
            for place in (0, 1, k, k * k - 1):
                for number in (k, k + 1, 255):
                    t = cyclic(k)
                    t[place] = number
                    self.check_refused(t)

    def test_0_changes_something_behind_others(self):
        # ij is j: of a group's laws this alone is broken.
        for k in (2, 3, 24):
            self.check_refused([b for a in range(k) for b in range(k)])

    def test_0_changes_something_ahead_of_others(self):
        for k in (2, 3, 24):
            self.check_refused([a for a in range(k) for b in range(k)])

    def test_another_thing_changes_nothing(self):
        self.check_refused([1, 0, 0, 1])
        self.check_refused(renamed(cyclic(6), [1, 0, 2, 3, 4, 5]))
        self.check_refused(renamed(symmetric(4), list(range(23, -1, -1))))

    def test_no_inverse(self):
        for k in (2, 3, 24):
            self.check_refused(greatest_things(k))

    def test_one_thing_without_an_inverse(self):
        # Of 0, 1, 2 with 1 times 1 as 0, 2 swallows everything.
        self.check_refused([0, 1, 2, 1, 0, 2, 2, 2, 2])

    def test_brackets_matter_with_inverses(self):
        self.check_refused([0, 1, 2, 3, 4,
                            1, 0, 3, 4, 2,
                            2, 4, 0, 1, 3,
                            3, 2, 4, 0, 1,
                            4, 3, 1, 2, 0])

    def test_brackets_matter_in_few_places(self):
        for k in (6, 8, 16, 24):
            self.check_refused(switched(k))

    def test_one_number_changed(self):
        for t in (cyclic(6), symmetric(3)):
            for place in range(36):
                for number in range(6):
                    if number != t[place]:
                        self.check_refused(t[:place] + [number] + t[place + 1:])


class CountedTables(unittest.TestCase):
    def test_all_tables_of_one_two_and_three_things(self):
        self.assertEqual(taken([[number] for number in range(256)]), [[0]])
        self.assertEqual(taken([list(t) for t in product(range(2), repeat=4)]), [cyclic(2)])
        self.assertEqual(taken([list(t) for t in product(range(3), repeat=9)]), [cyclic(3)])

    def test_squares_of_rows_that_are_groups(self):
        # How many ways to name a group's things but 0, by how many of these tell the same table.
        for k, squares, groups in ((4, 4, 4), (5, 56, 6), (6, 9408, 60 + 20)):
            tables = squares_of_rows(k)
            self.assertEqual(len(tables), squares)
            self.assertEqual(len(taken(tables)), groups)


class Prime(unittest.TestCase):
    def check_prime(self, t, prime):
        self.assertEqual(answers(line(call_table(t), PRIME)), singles([0, side(t), prime]))

    def test_primes_by_hand(self):
        self.check_prime(cyclic(1), 3)
        self.check_prime(cyclic(2), 5)
        self.check_prime(cyclic(3), 7)
        self.check_prime(cyclic(4), 13)
        self.check_prime(doubled_away(2), 11)
        self.check_prime(cyclic(6), 13)
        self.check_prime(symmetric(3), 13)
        self.check_prime(cyclic(24), 73)
        self.check_prime(symmetric(4), 61)
        self.check_prime(doubled_away(4), 37)

    def test_primes_by_their_words(self):
        for name, t in all_groups().items():
            with self.subTest(name):
                self.check_prime(t, prime_by_its_words(t))


if __name__ == "__main__":
    unittest.main()
