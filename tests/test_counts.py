"""Points 10 to 12: ways, pairs and roots."""

import unittest
from itertools import product

from grouptable.group import answers
from tests.tables import (GREATEST, LEAST, all_groups, alternating, ask_singles, call_pairs, call_roots, call_ways,
                          classes_by_their_words, cyclic, dihedral, doubled_away, inverses_by_their_words, line,
                          not_there, quaternions, side, singles, symmetric, ways_by_their_words)

SOME = (cyclic(1), cyclic(2), symmetric(3), cyclic(24), symmetric(4))


class Ways(unittest.TestCase):
    def test_ways_by_hand(self):
        # Permutations of three: class 1 are the three flips, class 2 the turns 3 and 4.
        for (i, j, a), ways in {(0, 0, 0): 1, (0, 0, 1): 0, (0, 1, 1): 1, (1, 0, 5): 1, (0, 2, 1): 0, (1, 1, 0): 3,
                                (1, 1, 3): 3, (1, 1, 4): 3, (1, 1, 1): 0, (1, 2, 1): 2, (2, 1, 5): 2, (1, 2, 3): 0,
                                (2, 2, 0): 2, (2, 2, 3): 1, (2, 2, 2): 0}.items():
            self.assertEqual(ask_singles(symmetric(3), [call_ways(i, j, a)]), [ways], (i, j, a))

    def test_before_any_table(self):
        calls = line(call_ways(0, 0, 0), call_ways(1, 0, 0), call_ways(0, 1, 0), call_ways(0, 0, 1))
        self.assertEqual(answers(calls), singles([0, 1, -1, -1, -1]))

    def test_classes_of_one_thing(self):
        t = cyclic(7)
        every = list(product(range(7), repeat=3))
        expected = [1 if (i + j) % 7 == a else 0 for i, j, a in every]
        self.assertEqual(ask_singles(t, [call_ways(*one) for one in every]), expected)

    def test_a_class_and_its_opposite_are_not_the_same(self):
        t = alternating(4)
        ways = ways_by_their_words(t)
        classes = classes_by_their_words(t)
        fours = [i for i, c in enumerate(classes) if len(c) == 4]
        told = ask_singles(t, [call_ways(i, j, 0) for i in fours for j in fours])
        self.assertEqual(told, [0, 4, 4, 0])
        self.assertEqual(told, [ways.get((i, j, 0), 0) for i in fours for j in fours])

    def test_ways_by_their_words(self):
        for name, t in all_groups().items():
            with self.subTest(name):
                count = len(classes_by_their_words(t))
                every = list(product(range(count), range(count), range(side(t))))
                # A prime above 24 as the stride, so that all i, all j and all a are met.
                some = every if len(every) <= 1000 else every[::29]
                ways = ways_by_their_words(t)
                self.assertEqual(ask_singles(t, [call_ways(*one) for one in some]), [ways.get(one, 0) for one in some])

    def test_no_such_class_or_thing(self):
        for t in SOME:
            count = len(classes_by_their_words(t))
            calls = [call_ways(i, count - 1, side(t) - 1) for i in not_there(count)]
            calls += [call_ways(count - 1, j, side(t) - 1) for j in not_there(count)]
            calls += [call_ways(count - 1, count - 1, a) for a in not_there(side(t))]
            calls += [call_ways(-1, count, LEAST), call_ways(GREATEST, LEAST, side(t))]
            self.assertEqual(ask_singles(t, calls), [-1] * 14)
            self.assertGreaterEqual(ask_singles(t, [call_ways(count - 1, count - 1, side(t) - 1)])[0], 0)


def pairs_by_their_words(t, a):
    k, inverse = side(t), inverses_by_their_words(t)
    return [t[t[x * k + y] * k + t[inverse[x] * k + inverse[y]]]
            for x, y in product(range(k), repeat=2)].count(a)


class Pairs(unittest.TestCase):
    def pairs(self, t):
        return ask_singles(t, [call_pairs(a) for a in range(side(t))])

    def test_before_any_table(self):
        calls = line(call_pairs(0), call_pairs(1), call_pairs(-1))
        self.assertEqual(answers(calls), singles([0, 1, -1, -1]))

    def test_where_products_commute(self):
        for t in (cyclic(1), cyclic(2), cyclic(24), doubled_away(4)):
            self.assertEqual(self.pairs(t), [side(t) ** 2] + [0] * (side(t) - 1))

    def test_where_products_do_not_commute(self):
        self.assertEqual(self.pairs(symmetric(3)), [18, 0, 0, 9, 9, 0])
        self.assertEqual(self.pairs(quaternions()), [40, 24, 0, 0, 0, 0, 0, 0])
        self.assertEqual(self.pairs(dihedral(4)), [40, 0, 24, 0, 0, 0, 0, 0])

    def test_pairs_by_their_words(self):
        for name, t in all_groups().items():
            with self.subTest(name):
                told = self.pairs(t)
                self.assertEqual(told, [pairs_by_their_words(t, a) for a in range(side(t))])
                self.assertEqual(told[0], side(t) * len(classes_by_their_words(t)))

    def test_no_such_thing(self):
        for t in SOME:
            self.assertEqual(ask_singles(t, [call_pairs(a) for a in not_there(side(t))]), [-1] * 4)


def roots_by_their_words(t, m):
    """For each thing how many things to the power m it is."""
    k = side(t)
    counts = [0] * k
    for base in range(k):
        raised = 0
        for step in range(m):
            raised = t[raised * k + base]
        counts[raised] += 1
    return counts


class Roots(unittest.TestCase):
    def roots(self, t, m):
        return ask_singles(t, [call_roots(a, m) for a in range(side(t))])

    def test_before_any_table(self):
        calls = line(call_roots(0, 0), call_roots(0, 1000), call_roots(1, 1), call_roots(0, 1001), call_roots(0, -1))
        self.assertEqual(answers(calls), singles([0, 1, 1, -1, -1, -1]))

    def test_the_power_0(self):
        for t in SOME:
            self.assertEqual(self.roots(t, 0), [side(t)] + [0] * (side(t) - 1))

    def test_the_power_1(self):
        for t in SOME:
            self.assertEqual(self.roots(t, 1), [1] * side(t))

    def test_roots_by_hand(self):
        self.assertEqual(self.roots(cyclic(4), 2), [2, 0, 2, 0])
        self.assertEqual(self.roots(symmetric(3), 2), [4, 0, 0, 1, 1, 0])
        self.assertEqual(self.roots(symmetric(3), 3), [3, 1, 1, 0, 0, 1])
        self.assertEqual(self.roots(quaternions(), 2), [2, 6, 0, 0, 0, 0, 0, 0])
        # 1000 is 6 more than a multiple of 7, and 999 is 5 more: each thing has one root.
        self.assertEqual(self.roots(cyclic(7), 999), [1] * 7)
        self.assertEqual(self.roots(cyclic(7), 1000), [1] * 7)
        self.assertEqual(self.roots(cyclic(5), 999), [1] * 5)
        self.assertEqual(self.roots(cyclic(5), 1000), [5, 0, 0, 0, 0])

    def test_roots_by_their_words(self):
        for name, t in all_groups().items():
            with self.subTest(name):
                for m in (0, 1, 2, 3, 4, 6, 23, 24, 25, 999, 1000):
                    self.assertEqual(self.roots(t, m), roots_by_their_words(t, m), m)

    def test_powers_outside_0_to_1000(self):
        for t in SOME:
            calls = [call_roots(a, m) for a in (0, side(t) - 1) for m in (-1, 1001, LEAST, GREATEST)]
            self.assertEqual(ask_singles(t, calls), [-1] * 8)

    def test_no_such_thing(self):
        for t in SOME:
            calls = [call_roots(a, m) for a in not_there(side(t)) for m in (0, 1, 2, 1000, -1, 1001)]
            self.assertEqual(ask_singles(t, calls), [-1] * 24)


if __name__ == "__main__":
    unittest.main()
