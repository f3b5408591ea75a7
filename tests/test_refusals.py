"""Sizes, sets and numbers that cannot be, and which of several is refused first."""

import unittest

from helper import BAD_SIZES, Case
from signsets.classes import by_classes, class_row, classes
from signsets.errors import BadNumber, BadSize
from signsets.ranges import common, inside, joined, less, members, others, plain
from signsets.tables import least, table
from signsets.texts import written

ONE_SET = {
    "members": members,
    "plain": plain,
    "others": others,
    "inside": lambda size, ranges: inside(size, ranges, 0),
    "written": written,
}
SOME_SETS = {
    "table": lambda size, sets: table(size, sets, 1),
    "least": least,
    "classes": classes,
    "class_row": class_row,
    "by_classes": by_classes,
}
TWO_SETS = {
    "joined": joined,
    "common": common,
    "less": less,
    "table": lambda size, one, other: table(size, [one, other], 1),
    "least": lambda size, one, other: least(size, [one, other]),
    "classes": lambda size, one, other: classes(size, [one, other]),
    "class_row": lambda size, one, other: class_row(size, [one, other]),
    "by_classes": lambda size, one, other: by_classes(size, [one, other]),
}

# Ranges that cannot be where the size is 10.
BAD_RANGES = [
    (-1, 3), (-1, -1), (-5, -2), (-1, 10),
    (0, 10), (9, 10), (10, 10), (3, 64), (11, 12), (0, 10 ** 5000),
    (1, 0), (9, 8), (9, 0), (0, -1), (10, 9),
]


class Refusals(Case):
    def assert_bad_one(self, at, size, ranges):
        """Every function refuses the set, under the number that it is handed in with."""
        for ask in ONE_SET.values():
            self.assert_bad_set(0, at, ask, size, ranges)
        for ask in TWO_SETS.values():
            self.assert_bad_set(0, at, ask, size, ranges, [])
            self.assert_bad_set(1, at, ask, size, [], ranges)
            self.assert_bad_set(0, at, ask, size, ranges, ranges)


class Sizes(Refusals):
    def test_bad_sizes(self):
        for size in BAD_SIZES:
            for ask in ONE_SET.values():
                self.assert_refused(BadSize, ask, size, [])
            for ask in TWO_SETS.values():
                self.assert_refused(BadSize, ask, size, [], [])

    def test_every_size_from_1_to_64(self):
        for size in range(1, 65):
            self.assertEqual(members(size, [(0, size - 1)]), list(range(size)))
            self.assertEqual(others(size, []), [(0, size - 1)])
            self.assertEqual(inside(size, [], size - 1), (False, []))
            for ask in ONE_SET.values():
                ask(size, [])
            for ask in TWO_SETS.values():
                ask(size, [], [])


class BadRanges(Refusals):
    def test_the_only_range(self):
        for bad in BAD_RANGES:
            self.assert_bad_one(0, 10, [bad])

    def test_the_first_the_middle_and_the_last_range(self):
        for bad in BAD_RANGES:
            self.assert_bad_one(0, 10, [bad, (1, 2), (4, 5)])
            self.assert_bad_one(1, 10, [(1, 2), bad, (4, 5)])
            self.assert_bad_one(2, 10, [(1, 2), (4, 5), bad])

    def test_the_first_of_several_bad_ranges(self):
        for bad in BAD_RANGES:
            self.assert_bad_one(0, 10, [bad, bad])
            self.assert_bad_one(1, 10, [(0, 9), bad, (-1, 0), (5, 4)])
            self.assert_bad_one(3, 10, [(0, 9), (3, 3), (0, 9), bad, (0, 1), (0, 10)])

    def test_a_last_of_the_size(self):
        for size in range(1, 65):
            self.assert_bad_one(1, size, [(0, size - 1), (size - 1, size)])
            self.assert_bad_one(1, size, [(0, size - 1), (size, size)])

    def test_a_good_set_under_a_larger_size(self):
        self.assertEqual(members(11, [(9, 10)]), [9, 10])
        self.assert_bad_one(0, 10, [(9, 10)])


class TooManyRanges(Refusals):
    def test_forty_one_and_more(self):
        for many in (41, 42, 50, 80, 200):
            self.assert_bad_one(40, 10, [(2, 3)] * many)

    def test_forty_one_different_ranges(self):
        self.assert_bad_one(40, 64, [(sign, sign) for sign in range(41)])

    def test_a_bad_range_ahead_of_the_forty_first(self):
        self.assert_bad_one(0, 10, [(5, 4)] + [(2, 3)] * 40)
        self.assert_bad_one(7, 10, [(2, 3)] * 7 + [(0, 10)] + [(2, 3)] * 60)
        self.assert_bad_one(39, 10, [(2, 3)] * 39 + [(-1, 0)] + [(2, 3)])

    def test_a_bad_fortieth_of_forty(self):
        self.assert_bad_one(39, 10, [(2, 3)] * 39 + [(-1, 0)])

    def test_a_bad_range_at_the_forty_first_or_behind(self):
        self.assert_bad_one(40, 10, [(2, 3)] * 40 + [(5, 4)])
        self.assert_bad_one(40, 10, [(2, 3)] * 45 + [(5, 4)])


class SomeSets(Refusals):
    def test_bad_sizes(self):
        for size in BAD_SIZES:
            for ask in SOME_SETS.values():
                for sets in ([], [[]], [[]] * 6, [[(1, 0)]], [[], [(0, 0)] * 41]):
                    self.assert_refused(BadSize, ask, size, sets)

    def test_each_of_six_sets(self):
        for number in range(6):
            for bad in BAD_RANGES:
                sets = [[(1, 2)], [], [(4, 9), (0, 9)], [(0, 0)] * 40, [(9, 9)], [(3, 3)]]
                sets[number] = [(1, 2), (0, 9), bad, (5, 4)]
                for ask in SOME_SETS.values():
                    self.assert_bad_set(number, 2, ask, 10, sets)

    def test_a_forty_first_range_of_each_of_six_sets(self):
        for number in range(6):
            sets = [[(0, 1)] * 40 for _ in range(6)]
            sets[number].append((0, 1))
            for ask in SOME_SETS.values():
                self.assert_bad_set(number, 40, ask, 10, sets)

    def test_the_first_of_several_bad_sets(self):
        bad, long = [(0, 1), (9, 10)], [(0, 1)] * 41
        for ask in SOME_SETS.values():
            self.assert_bad_set(0, 1, ask, 10, [bad, long, long, long, long, long])
            self.assert_bad_set(0, 40, ask, 10, [long, bad, bad, bad, bad, bad])
            self.assert_bad_set(2, 1, ask, 10, [[], [(0, 9)], bad, long, [], [(1, 0)]])
            self.assert_bad_set(3, 40, ask, 10, [[], [(0, 9)], [], long, [], [(1, 0)]])

    def test_a_bad_seventh_set(self):
        for ask in SOME_SETS.values():
            self.assert_bad_set(6, 1, ask, 10, [[(0, 1)]] * 6 + [[(0, 1), (9, 10)]])

    def test_sets_are_unchanged(self):
        sets = [[(4, 5)], [(2, 3), (9, 8), (0, 10)], []]
        for ask in SOME_SETS.values():
            self.assert_bad_set(1, 1, ask, 10, sets)
            self.assertEqual(sets, [[(4, 5)], [(2, 3), (9, 8), (0, 10)], []])


class BadNumbers(Refusals):
    def test_numbers_that_no_sign_has(self):
        for size in (1, 2, 10, 63, 64):
            for ranges in ([], [(0, 0)], [(0, size - 1)]):
                for number in (-1, -2, -size, size, size + 1, 1000, 10 ** 5000, -10 ** 5000):
                    self.assert_refused(BadNumber, inside, size, ranges, number)

    def test_the_least_and_the_greatest_number(self):
        for size in (1, 2, 10, 63, 64):
            self.assertEqual(inside(size, [(0, size - 1)], 0), (True, [(0, size - 1)]))
            self.assertEqual(inside(size, [(0, size - 1)], size - 1), (True, [(0, size - 1)]))


class WhichComesFirst(Refusals):
    def test_a_bad_size_ahead_of_a_bad_set(self):
        for size in BAD_SIZES:
            for ranges in ([(1, 0)], [(-1, 0)], [(0, 10 ** 6)], [(0, 0)] * 41):
                for ask in ONE_SET.values():
                    self.assert_refused(BadSize, ask, size, ranges)
                for ask in TWO_SETS.values():
                    self.assert_refused(BadSize, ask, size, ranges, [])
                    self.assert_refused(BadSize, ask, size, [], ranges)

    def test_a_bad_size_ahead_of_a_bad_number(self):
        for size in BAD_SIZES:
            self.assert_refused(BadSize, inside, size, [], -1)
            self.assert_refused(BadSize, inside, size, [(1, 0)], -1)

    def test_a_bad_first_set_ahead_of_a_bad_second(self):
        for ask in TWO_SETS.values():
            self.assert_bad_set(0, 2, ask, 10, [(0, 1), (3, 4), (9, 8)], [(-1, 0)])
            self.assert_bad_set(0, 40, ask, 10, [(0, 1)] * 41, [(-1, 0)])
            self.assert_bad_set(0, 1, ask, 10, [(0, 1), (5, 10)], [(0, 1)] * 41)

    def test_a_bad_second_set(self):
        for ask in TWO_SETS.values():
            self.assert_bad_set(1, 1, ask, 10, [(0, 1), (3, 4)], [(0, 1), (9, 8)])
            self.assert_bad_set(1, 40, ask, 10, [(0, 1)] * 40, [(0, 1)] * 41)

    def test_a_bad_set_ahead_of_a_bad_number(self):
        for number in (-1, 10):
            self.assert_bad_set(0, 1, inside, 10, [(0, 1), (9, 10)], number)
            self.assert_bad_set(0, 40, inside, 10, [(0, 1)] * 41, number)


class NothingIsChangedByARefusal(Refusals):
    def test_lists_are_unchanged(self):
        ranges = [(4, 5), (2, 3), (9, 8), (0, 10)]
        self.assert_bad_one(2, 10, ranges)
        self.assertEqual(ranges, [(4, 5), (2, 3), (9, 8), (0, 10)])

    def test_the_same_refusal_each_time_and_good_answers_behind_it(self):
        for _ in range(2):
            self.assert_bad_one(1, 10, [(4, 5), (9, 8)])
            self.assertEqual(plain(10, [(4, 5), (8, 9)]), [(4, 5), (8, 9)])


if __name__ == "__main__":
    unittest.main()
