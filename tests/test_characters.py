"""Points 8 and 9: character and kind."""

import unittest
from itertools import product

from grouptable.group import answers
from tests.tables import (GREATEST, LEAST, all_groups, ask, ask_singles, call_character, call_kind, call_roots,
                          call_table, characters_told, class_numbers_by_their_words, classes_by_their_words, cyclic,
                          dihedral, direct, doubled_away, in_parts, inverses_by_their_words, line, not_there,
                          prime_by_its_words, quaternions, renamed, side, special_linear, symmetric,
                          ways_by_their_words)


class Conditions:
    """The three conditions of a character, reckoned from a table."""

    def __init__(self, t):
        classes = classes_by_their_words(t)
        number = class_numbers_by_their_words(t)
        inverse = inverses_by_their_words(t)
        least = {c[0]: i for i, c in enumerate(classes)}
        self.k = side(t)
        self.p = prime_by_its_words(t)
        self.sizes = [len(c) for c in classes]
        self.opposite = [number[inverse[c[0]]] for c in classes]
        self.ways = {(i, j): [] for i in range(len(classes)) for j in range(len(classes))}
        for (i, j, a), count in ways_by_their_words(t).items():
            if a in least:
                self.ways[i, j].append((least[a], count))

    def degree_fits(self, r):
        return 1 <= r[0] and r[0] * r[0] <= self.k

    def products_fit(self, r):
        sized = [size * number for size, number in zip(self.sizes, r)]
        return all((sized[i] * sized[j] - r[0] * sum(count * sized[c] for c, count in ways)) % self.p == 0
                   for (i, j), ways in self.ways.items())

    def sum_fits(self, r):
        total = sum(size * r[i] * r[self.opposite[i]] for i, size in enumerate(self.sizes))
        return (total - self.k) % self.p == 0

    def all_fit(self, r):
        return self.degree_fits(r) and self.products_fit(r) and self.sum_fits(r)


class Characters(unittest.TestCase):
    def check_characters(self, t, rows):
        count = len(rows[0])
        told = answers(line(call_table(t), *[call_character(r, count) for r in range(len(rows))]))
        expected = [[0], [side(t)]] + [[count] + row for row in rows]
        self.assertEqual(in_parts(told), expected)

    def test_before_any_table(self):
        self.assertEqual(answers(line(call_character(0, 64))), [1, 0, 2, 1, 1])
        self.assertEqual(answers(line(call_character(1, 64))), [1, 0, 1, -1])

    def test_characters_by_hand(self):
        self.check_characters(cyclic(1), [[1]])
        self.check_characters(cyclic(2), [[1, 1], [1, 4]])
        # Modulo 7 the numbers 2 and 4 to the power 3 are 1.
        self.check_characters(cyclic(3), [[1, 1, 1], [1, 2, 4], [1, 4, 2]])
        self.check_characters(symmetric(3), [[1, 1, 1], [1, 12, 1], [2, 0, 12]])
        self.check_characters(quaternions(), [[1, 1, 1, 1, 1], [1, 1, 1, 16, 16], [1, 1, 16, 1, 16],
                                              [1, 1, 16, 16, 1], [2, 15, 0, 0, 0]])

    def test_classes_in_another_order(self):
        t = renamed(symmetric(3), [0, 5, 4, 1, 2, 3])
        self.check_characters(t, [[1, 1, 1], [1, 1, 12], [2, 12, 0]])

    def test_degrees(self):
        for t, degrees in ((symmetric(4), [1, 1, 2, 3, 3]), (special_linear(3), [1, 1, 1, 2, 2, 2, 3]),
                           (cyclic(24), [1] * 24), (doubled_away(4), [1] * 16)):
            self.assertEqual([row[0] for row in characters_told(t)], degrees)

    def test_characters_by_their_words(self):
        for name, t in all_groups().items():
            with self.subTest(name):
                conditions = Conditions(t)
                rows = characters_told(t)
                self.assertEqual(len(rows), len(conditions.sizes))
                for row, following in zip(rows, rows[1:]):
                    self.assertLess(row, following)
                for row in rows:
                    self.assertEqual(len(row), len(conditions.sizes))
                    self.assertTrue(all(0 <= number < conditions.p for number in row))
                    self.assertTrue(conditions.degree_fits(row), row)
                    self.assertTrue(conditions.products_fit(row), row)
                    self.assertTrue(conditions.sum_fits(row), row)

    def test_every_row_that_is_so(self):
        for t in (cyclic(1), cyclic(2), cyclic(3), cyclic(4), doubled_away(2), symmetric(3)):
            conditions = Conditions(t)
            rows = product(range(conditions.p), repeat=len(conditions.sizes))
            fitting = [list(row) for row in rows if conditions.all_fit(row)]
            self.assertEqual(characters_told(t), fitting)

    def test_how_many_are_told(self):
        for t in (cyclic(1), cyclic(2), symmetric(3), quaternions(), cyclic(24), symmetric(4)):
            rows = characters_told(t)
            count = len(rows)
            for r in (0, count // 2, count - 1):
                mosts = sorted({1, max(1, count - 1), count, count + 1, 63, 64})
                told = ask(t, [call_character(r, most) for most in mosts])
                self.assertEqual(told, [[count] + rows[r][:most] for most in mosts])

    def test_none_are_told(self):
        for t in (cyclic(1), symmetric(3), cyclic(24)):
            count = len(classes_by_their_words(t))
            for r, most in product((0, count - 1), (0, 65, 66, -1, -64, LEAST, GREATEST)):
                self.assertEqual(ask(t, [call_character(r, most)]), [[count]])

    def test_no_such_character(self):
        for t in (cyclic(1), cyclic(2), symmetric(3), cyclic(24), symmetric(4)):
            count = len(classes_by_their_words(t))
            for r, most in product(not_there(count), (1, 64, 0, 65, LEAST, GREATEST)):
                self.assertEqual(ask(t, [call_character(r, most)]), [[-1]])

    def test_another_group_has_other_characters(self):
        calls = line(call_character(0, 9), call_table(symmetric(3)), call_character(2, 9), call_table(cyclic(2)),
                     call_character(1, 9), call_character(2, 9), call_table(symmetric(3)), call_character(1, 9),
                     [0], call_character(0, 9), call_character(1, 9))
        self.assertEqual(in_parts(answers(calls)), [[0], [1, 1], [6], [3, 2, 0, 12], [2], [2, 1, 4], [-1], [6],
                                                    [3, 1, 12, 1], [0], [1, 1], [-1]])


def kind_by_its_words(t, row):
    k, p, number = side(t), prime_by_its_words(t), class_numbers_by_their_words(t)
    remainder = sum(row[number[t[a * k + a]]] for a in range(k)) % p
    return {k % p: 1, 0: 0}.get(remainder, 2)


class Kinds(unittest.TestCase):
    def kinds(self, t):
        return ask_singles(t, [call_kind(r) for r in range(len(classes_by_their_words(t)))])

    def test_kinds_by_hand(self):
        self.assertEqual(answers(line(call_kind(0), call_kind(1))), [1, 0, 1, 1, 1, -1])
        self.assertEqual(self.kinds(cyclic(1)), [1])
        self.assertEqual(self.kinds(cyclic(2)), [1, 1])
        self.assertEqual(self.kinds(cyclic(3)), [1, 0, 0])
        self.assertEqual(self.kinds(symmetric(3)), [1, 1, 1])
        self.assertEqual(self.kinds(dihedral(4)), [1, 1, 1, 1, 1])
        self.assertEqual(self.kinds(quaternions()), [1, 1, 1, 1, 2])
        self.assertEqual(sorted(self.kinds(special_linear(3))), [0, 0, 0, 0, 1, 1, 2])
        self.assertEqual(self.kinds(doubled_away(4)), [1] * 16)
        self.assertEqual(sorted(self.kinds(direct(cyclic(3), quaternions()))), [0] * 10 + [1] * 4 + [2])

    def test_kinds_by_their_words(self):
        for name, t in all_groups().items():
            with self.subTest(name):
                self.assertEqual(self.kinds(t), [kind_by_its_words(t, row) for row in characters_told(t)])

    def test_kinds_tell_the_roots_of_0(self):
        signs = {1: 1, 0: 0, 2: -1}
        for name, t in all_groups().items():
            with self.subTest(name):
                total = sum(signs[kind] * row[0] for kind, row in zip(self.kinds(t), characters_told(t)))
                self.assertEqual(ask_singles(t, [call_roots(0, 2)]), [total])

    def test_kind_of_no_character(self):
        for t in (cyclic(1), cyclic(2), symmetric(3), cyclic(24), symmetric(4)):
            count = len(classes_by_their_words(t))
            self.assertEqual(ask_singles(t, [call_kind(r) for r in not_there(count)]), [-1] * 4)


if __name__ == "__main__":
    unittest.main()
