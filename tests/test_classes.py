"""Points 5 to 7: classes, class and size."""

import unittest

from grouptable.group import answers
from tests.tables import (CLASSES, GREATEST, LEAST, all_groups, call_class, call_size, call_table,
                          class_numbers_by_their_words, classes_by_their_words, cyclic, line, quaternions, renamed,
                          side, singles, symmetric)


def about_classes(t):
    """classes, then class of all things, then size of all classes, behind a table."""
    numbers = answers(line(call_table(t), CLASSES, *[call_class(a) for a in range(side(t))]))[5::2]
    sizes = answers(line(call_table(t), *[call_size(i) for i in range(numbers[0])]))[5::2]
    return numbers, sizes


class Classes(unittest.TestCase):
    def check_classes(self, t, of_things, sizes):
        self.assertEqual(about_classes(t), ([len(sizes)] + of_things, sizes))

    def test_where_products_commute(self):
        for k in (1, 2, 6, 24):
            self.check_classes(cyclic(k), list(range(k)), [1] * k)

    def test_where_products_do_not_commute(self):
        # Permutations of three in order of their rows: 3 and 4 are the turns.
        self.check_classes(symmetric(3), [0, 1, 1, 2, 2, 1], [1, 3, 2])
        self.check_classes(quaternions(), [0, 1, 2, 2, 3, 3, 4, 4], [1, 1, 2, 2, 2])

    def test_numbered_by_their_least_things(self):
        # The turns come first here, then the flips.
        t = renamed(symmetric(3), [0, 5, 4, 1, 2, 3])
        self.check_classes(t, [0, 1, 1, 2, 2, 2], [1, 2, 3])
        # Here they lie mixed.
        t = renamed(symmetric(3), [0, 1, 4, 2, 5, 3])
        self.check_classes(t, [0, 1, 2, 1, 1, 2], [1, 3, 2])

    def test_twenty_four_things(self):
        self.assertEqual(about_classes(symmetric(4))[0][0], 5)
        self.assertEqual(sorted(about_classes(symmetric(4))[1]), [1, 3, 6, 6, 8])

    def test_classes_by_their_words(self):
        for name, t in all_groups().items():
            with self.subTest(name):
                sizes = [len(c) for c in classes_by_their_words(t)]
                self.check_classes(t, class_numbers_by_their_words(t), sizes)


class NoSuchThing(unittest.TestCase):
    def check_refused(self, call, t, too_great):
        for number in (-1, too_great, too_great + 1, -too_great, LEAST, GREATEST):
            calls = line(call_table(t), call(number), CLASSES)
            expected = [0, side(t), -1, len(classes_by_their_words(t))]
            self.assertEqual(answers(calls), singles(expected), number)
        for number in (0, too_great - 1):
            self.assertGreaterEqual(answers(line(call_table(t), call(number)))[-1], 0)

    def test_class_of_no_thing(self):
        for t in (cyclic(1), cyclic(2), symmetric(3), cyclic(24), symmetric(4)):
            self.check_refused(call_class, t, side(t))

    def test_size_of_no_class(self):
        for t in (cyclic(1), cyclic(2), symmetric(3), cyclic(24), symmetric(4)):
            self.check_refused(call_size, t, len(classes_by_their_words(t)))

    def test_before_any_table(self):
        calls = line(call_class(0), call_class(1), call_class(-1), call_size(0), call_size(1), call_size(-1))
        self.assertEqual(answers(calls), singles([0, 0, -1, -1, 1, -1, -1]))


if __name__ == "__main__":
    unittest.main()
