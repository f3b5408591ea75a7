"""Classes of signs: classes, class_row and by_classes."""

import unittest

from helper import SIZES, Case, all_sets, families, fewest, signs_of
from signsets.classes import by_classes, class_row, classes


def plain_classes(size, sets):
    """The classes as sets of signs: each sign joins the first class whose least sign no set tells from it."""
    held = [signs_of(ranges) for ranges in sets]
    found = []
    for sign in range(size):
        for one in found:
            if all((sign in signs) == (min(one) in signs) for signs in held):
                one.add(sign)
                break
        else:
            found.append({sign})
    return found


class ClassCase(Case):
    def assert_lists(self, told, expected):
        self.assertEqual(told, expected)
        self.assertEqual([type(part) for part in [told, *told]], [list] * (len(told) + 1))

    def assert_numbers(self, told, expected):
        self.assertEqual(told, expected)
        self.assertIs(type(told), list)
        self.assertEqual({type(number) for number in told} - {int}, set())

    def assert_told(self, size, sets, expected, row, by):
        """What each of the three functions tells."""
        told = classes(size, sets)
        self.assert_lists(told, expected)
        for ranges, expected_ranges in zip(told, expected):
            self.assert_ranges(ranges, expected_ranges)
        self.assert_numbers(class_row(size, sets), row)
        by_told = by_classes(size, sets)
        self.assert_lists(by_told, by)
        for numbers, expected_numbers in zip(by_told, by):
            self.assert_numbers(numbers, expected_numbers)

    def assert_as_plain(self, size, sets):
        found = plain_classes(size, sets)
        row = [[sign in one for one in found].index(True) for sign in range(size)]
        by = [[number for number, one in enumerate(found) if one <= signs_of(ranges)] for ranges in sets]
        self.assert_told(size, sets, [fewest(one) for one in found], row, by)


class WrittenOut(ClassCase):
    def test_two_sets(self):
        self.assert_told(
            10, [[(0, 4)], [(3, 6)]],
            [[(0, 2)], [(3, 4)], [(5, 6)], [(7, 9)]],
            [0, 0, 0, 1, 1, 2, 2, 3, 3, 3],
            [[0, 1], [1, 2]],
        )

    def test_classes_come_in_the_order_of_their_least_signs(self):
        self.assert_told(
            8, [[(6, 7), (1, 2)], [(4, 4), (2, 2), (7, 7)]],
            [[(0, 0), (3, 3), (5, 5)], [(1, 1), (6, 6)], [(2, 2), (7, 7)], [(4, 4)]],
            [0, 1, 2, 0, 3, 0, 1, 2],
            [[1, 2], [2, 3]],
        )

    def test_the_order_of_the_sets_does_not_matter_to_the_classes(self):
        sets = [[(6, 7), (1, 2)], [(4, 4), (2, 2), (7, 7)]]
        self.assertEqual(classes(8, sets[::-1]), classes(8, sets))
        self.assertEqual(class_row(8, sets[::-1]), class_row(8, sets))
        self.assertEqual(by_classes(8, sets[::-1]), [[2, 3], [1, 2]])

    def test_a_class_of_a_set_and_the_class_of_no_set(self):
        self.assert_told(6, [[(0, 1), (4, 4)]], [[(0, 1), (4, 4)], [(2, 3), (5, 5)]], [0, 0, 1, 1, 0, 1], [[0]])
        self.assert_told(6, [[(2, 3), (5, 5)]], [[(0, 1), (4, 4)], [(2, 3), (5, 5)]], [0, 0, 1, 1, 0, 1], [[1]])

    def test_sets_that_are_alike(self):
        self.assert_told(
            5, [[(1, 2)], [(2, 2), (1, 1)], [(1, 2), (1, 2)]],
            [[(0, 0), (3, 4)], [(1, 2)]], [0, 1, 1, 0, 0], [[1], [1], [1]],
        )

    def test_sets_that_are_the_others_of_one_another(self):
        self.assert_told(5, [[(1, 2)], [(3, 4), (0, 0)]], [[(0, 0), (3, 4)], [(1, 2)]], [0, 1, 1, 0, 0], [[1], [0]])

    def test_no_set(self):
        for size in range(1, 65):
            self.assert_told(size, [], [[(0, size - 1)]], [0] * size, [])

    def test_sets_without_signs_and_with_all(self):
        for size in SIZES:
            every = [(0, size - 1)]
            self.assert_told(size, [[]], [every], [0] * size, [[]])
            self.assert_told(size, [every], [every], [0] * size, [[0]])
            self.assert_told(size, [[], every, []], [every], [0] * size, [[], [0], []])
            self.assert_told(size, [[]] * 6, [every], [0] * size, [[]] * 6)

    def test_each_sign_a_class_of_its_own(self):
        bits = [[(sign, sign) for sign in range(64) if sign >> bit & 1] for bit in range(6)]
        for size in (63, 64):
            sets = [[(first, last) for first, last in ranges if last < size] for ranges in bits]
            by = [[first for first, _ in ranges] for ranges in sets]
            self.assert_told(size, sets, [[(sign, sign)] for sign in range(size)], list(range(size)), by)

    def test_numbers_above_nine_rise_as_numbers(self):
        sets = [[(sign, sign) for sign in range(12) if sign >> bit & 1] for bit in range(4)]
        self.assertEqual(by_classes(12, sets)[3], [8, 9, 10, 11])
        self.assertEqual(by_classes(12, sets)[1], [2, 3, 6, 7, 10, 11])


class AgainstPlainAnswers(ClassCase):
    def test_each_family(self):
        for size in SIZES + (10, 37):
            for sets in families(size):
                self.assert_as_plain(size, sets)

    def test_every_two_sets_of_size_4(self):
        for one in all_sets(4):
            for other in all_sets(4):
                self.assert_as_plain(4, [one, other])

    def test_every_set_of_size_8(self):
        for ranges in all_sets(8):
            self.assert_as_plain(8, [ranges])

    def test_six_sets_of_forty_ranges(self):
        for size in SIZES:
            steps = (3, 4, 8, 12, 16, 32)
            sets = [[(turn * step % size, turn * step % size) for turn in range(40)] for step in steps]
            self.assertEqual([len(ranges) for ranges in sets], [40] * 6)
            self.assert_as_plain(size, sets)

    def test_more_than_six_sets(self):
        self.assert_as_plain(9, [[(sign, 8)] for sign in range(8)])


if __name__ == "__main__":
    unittest.main()
