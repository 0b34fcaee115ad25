"""Point 13: solvable."""

import unittest

from grouptable.group import answers, solvable
from grouptable.steps import all_made
from grouptable.structure import Group
from tests.tables import SOLVABLE, all_groups, alternating, ask_singles, cyclic, line, side, singles, symmetric


def group_of(t):
    k = side(t)
    return Group([t[a * k:a * k + k] for a in range(k)])


class Solvable(unittest.TestCase):
    def test_before_any_table(self):
        self.assertEqual(answers(line(SOLVABLE)), singles([0, 1]))

    def test_groups_of_up_to_24_things_come_apart(self):
        for name, t in all_groups().items():
            with self.subTest(name):
                self.assertEqual(ask_singles(t, [SOLVABLE]), [1])

    def test_a_group_that_does_not_come_apart(self):
        # The least such group has 60 things, and a list of calls hands in 24 at the most.
        self.assertEqual(solvable(group_of(alternating(5))), 0)

    def test_groups_that_come_apart_in_none_to_three_steps(self):
        for t in (cyclic(1), cyclic(2), symmetric(3), symmetric(4), alternating(4)):
            self.assertEqual(solvable(group_of(t)), 1)

    def test_whatever_products_are_made(self):
        # In groups of few things the xyx'y' are all that they make, so this is asked of other things.
        for k, makers, made in ((6, [0], [0]), (6, [2], [0, 2, 4]), (6, [3], [0, 3]), (6, [2, 3], [0, 1, 2, 3, 4, 5]),
                                (24, [0, 5], list(range(24))), (24, [16, 20], [0, 4, 8, 12, 16, 20])):
            self.assertEqual(sorted(all_made(group_of(cyclic(k)).products, makers)), made)


if __name__ == "__main__":
    unittest.main()
