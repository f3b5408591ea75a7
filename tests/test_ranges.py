"""Sets that can be: members, plain, joined, common, less, others and inside."""

import copy
import unittest

from helper import Case, all_sets, fewest, signs_of
from signsets.ranges import common, inside, joined, less, members, others, plain

ALL_64 = list(range(64))

# Sets of size 12: the ranges that are handed in, and the fewest ranges.
SETS_OF_12 = [
    ([], []),
    ([(0, 0)], [(0, 0)]),
    ([(11, 11)], [(11, 11)]),
    ([(0, 11)], [(0, 11)]),
    ([(3, 7)], [(3, 7)]),
    ([(2, 3), (4, 5)], [(2, 5)]),
    ([(4, 5), (2, 3)], [(2, 5)]),
    ([(2, 3), (5, 6)], [(2, 3), (5, 6)]),
    ([(5, 6), (2, 3)], [(2, 3), (5, 6)]),
    ([(1, 9), (3, 4)], [(1, 9)]),
    ([(3, 4), (1, 9)], [(1, 9)]),
    ([(1, 9), (1, 4), (7, 9)], [(1, 9)]),
    ([(1, 5), (4, 8)], [(1, 8)]),
    ([(4, 8), (1, 5)], [(1, 8)]),
    ([(1, 5), (5, 8)], [(1, 8)]),
    ([(2, 4), (2, 4)], [(2, 4)]),
    ([(6, 6), (2, 4), (6, 6), (2, 4)], [(2, 4), (6, 6)]),
    ([(10, 11), (0, 1), (5, 5), (7, 7), (3, 3)], [(0, 1), (3, 3), (5, 5), (7, 7), (10, 11)]),
    ([(0, 2), (4, 6), (8, 10), (3, 3), (7, 7), (11, 11)], [(0, 11)]),
    ([(8, 9), (0, 0), (2, 5), (3, 6), (1, 1)], [(0, 6), (8, 9)]),
]


def halving(ranges, sign):
    """The search by halving, over lists that are cut, for comparison."""
    if not ranges:
        return False, []
    middle = len(ranges) // 2
    first, last = ranges[middle]
    if first <= sign <= last:
        return True, [(first, last)]
    rest = ranges[:middle] if sign < first else ranges[middle + 1:]
    found, looked = halving(rest, sign)
    return found, [(first, last)] + looked


class Members(Case):
    def test_written_out(self):
        self.assertEqual(members(10, []), [])
        self.assertEqual(members(10, [(4, 4)]), [4])
        self.assertEqual(members(10, [(7, 9), (0, 1)]), [0, 1, 7, 8, 9])
        self.assertEqual(members(10, [(2, 6), (3, 4), (6, 7)]), [2, 3, 4, 5, 6, 7])
        self.assertEqual(members(10, [(5, 5), (5, 5)]), [5])
        self.assertEqual(members(10, [(0, 9)]), list(range(10)))

    def test_sets_of_12(self):
        for ranges, fewest_ranges in SETS_OF_12:
            told = members(12, ranges)
            self.assertEqual(told, sorted(signs_of(fewest_ranges)), ranges)
            self.assertIs(type(told), list)

    def test_numbers_are_integers(self):
        self.assertEqual([type(sign) for sign in members(3, [(0, 2)])], [int, int, int])


class Plain(Case):
    def test_sets_of_12(self):
        for ranges, fewest_ranges in SETS_OF_12:
            self.assert_ranges(plain(12, ranges), fewest_ranges)

    def test_plain_of_plain_is_the_same(self):
        for ranges, fewest_ranges in SETS_OF_12:
            self.assert_ranges(plain(12, plain(12, ranges)), fewest_ranges)

    def test_every_pair_of_ranges_of_size_6(self):
        ranges = [(first, last) for first in range(6) for last in range(first, 6)]
        for one in ranges:
            for other in ranges:
                self.assert_ranges(plain(6, [one, other]), fewest(signs_of([one, other])))

    def test_every_set_of_size_7(self):
        for ranges in all_sets(7):
            self.assert_ranges(plain(7, ranges), fewest(signs_of(ranges)))


class TwoSets(Case):
    def test_joined_written_out(self):
        self.assert_ranges(joined(10, [], []), [])
        self.assert_ranges(joined(10, [(2, 3)], []), [(2, 3)])
        self.assert_ranges(joined(10, [], [(2, 3)]), [(2, 3)])
        self.assert_ranges(joined(10, [(2, 3)], [(4, 5)]), [(2, 5)])
        self.assert_ranges(joined(10, [(4, 5)], [(2, 3)]), [(2, 5)])
        self.assert_ranges(joined(10, [(8, 9), (0, 1)], [(3, 3), (1, 2)]), [(0, 3), (8, 9)])
        self.assert_ranges(joined(10, [(0, 4)], [(5, 9)]), [(0, 9)])

    def test_common_written_out(self):
        self.assert_ranges(common(10, [], []), [])
        self.assert_ranges(common(10, [(2, 3)], []), [])
        self.assert_ranges(common(10, [(2, 3)], [(4, 5)]), [])
        self.assert_ranges(common(10, [(0, 5)], [(4, 9)]), [(4, 5)])
        self.assert_ranges(common(10, [(0, 9)], [(7, 8), (1, 1)]), [(1, 1), (7, 8)])
        self.assert_ranges(common(10, [(0, 3), (4, 9)], [(2, 5)]), [(2, 5)])

    def test_less_written_out(self):
        self.assert_ranges(less(10, [], [(0, 9)]), [])
        self.assert_ranges(less(10, [(2, 3)], []), [(2, 3)])
        self.assert_ranges(less(10, [(0, 5)], [(4, 9)]), [(0, 3)])
        self.assert_ranges(less(10, [(4, 9)], [(0, 5)]), [(6, 9)])
        self.assert_ranges(less(10, [(0, 9)], [(4, 5)]), [(0, 3), (6, 9)])
        self.assert_ranges(less(10, [(0, 9)], [(0, 9)]), [])
        self.assert_ranges(less(10, [(6, 7), (2, 5)], [(9, 9)]), [(2, 7)])

    def test_every_two_sets_of_size_5(self):
        sets = all_sets(5)
        for one in sets:
            for other in sets:
                left, right = signs_of(one), signs_of(other)
                self.assert_ranges(joined(5, one, other), fewest(left | right))
                self.assert_ranges(common(5, one, other), fewest(left & right))
                self.assert_ranges(less(5, one, other), fewest(left - right))

    def test_every_two_of_the_sets_of_12(self):
        for one, _ in SETS_OF_12:
            for other, _ in SETS_OF_12:
                left, right = signs_of(one), signs_of(other)
                self.assert_ranges(joined(12, one, other), fewest(left | right))
                self.assert_ranges(common(12, one, other), fewest(left & right))
                self.assert_ranges(less(12, one, other), fewest(left - right))

    def test_a_set_with_itself(self):
        ranges = [(4, 6), (0, 1), (2, 2)]
        self.assert_ranges(joined(8, ranges, ranges), [(0, 2), (4, 6)])
        self.assert_ranges(common(8, ranges, ranges), [(0, 2), (4, 6)])
        self.assert_ranges(less(8, ranges, ranges), [])


class Others(Case):
    def test_written_out(self):
        self.assert_ranges(others(10, []), [(0, 9)])
        self.assert_ranges(others(10, [(0, 9)]), [])
        self.assert_ranges(others(10, [(0, 4), (5, 9)]), [])
        self.assert_ranges(others(10, [(0, 0)]), [(1, 9)])
        self.assert_ranges(others(10, [(9, 9)]), [(0, 8)])
        self.assert_ranges(others(10, [(7, 7), (3, 4)]), [(0, 2), (5, 6), (8, 9)])

    def test_sets_of_12(self):
        for ranges, fewest_ranges in SETS_OF_12:
            self.assert_ranges(others(12, ranges), fewest(set(range(12)) - signs_of(ranges)))
            self.assert_ranges(others(12, others(12, ranges)), fewest_ranges)

    def test_every_set_of_size_7(self):
        for ranges in all_sets(7):
            self.assert_ranges(others(7, ranges), fewest(set(range(7)) - signs_of(ranges)))


class Inside(Case):
    def assert_inside(self, told, expected):
        self.assertEqual(told, expected)
        self.assertIs(type(told), tuple)
        self.assertIs(type(told[0]), bool)
        self.assert_ranges(told[1], expected[1])

    def test_no_range(self):
        for sign in range(4):
            self.assert_inside(inside(4, [], sign), (False, []))

    def test_one_range(self):
        expected = [False, False, True, True, True, False]
        for sign in range(6):
            self.assert_inside(inside(6, [(2, 4)], sign), (expected[sign], [(2, 4)]))

    def test_two_ranges_look_at_the_second_first(self):
        ranges = [(1, 2), (5, 6)]
        self.assert_inside(inside(8, ranges, 0), (False, [(5, 6), (1, 2)]))
        self.assert_inside(inside(8, ranges, 1), (True, [(5, 6), (1, 2)]))
        self.assert_inside(inside(8, ranges, 3), (False, [(5, 6), (1, 2)]))
        self.assert_inside(inside(8, ranges, 5), (True, [(5, 6)]))
        self.assert_inside(inside(8, ranges, 6), (True, [(5, 6)]))
        self.assert_inside(inside(8, ranges, 7), (False, [(5, 6)]))

    def test_five_ranges(self):
        ranges = [(0, 0), (2, 3), (5, 6), (8, 8), (10, 11)]
        self.assert_inside(inside(13, ranges, 0), (True, [(5, 6), (2, 3), (0, 0)]))
        self.assert_inside(inside(13, ranges, 1), (False, [(5, 6), (2, 3), (0, 0)]))
        self.assert_inside(inside(13, ranges, 3), (True, [(5, 6), (2, 3)]))
        self.assert_inside(inside(13, ranges, 4), (False, [(5, 6), (2, 3)]))
        self.assert_inside(inside(13, ranges, 6), (True, [(5, 6)]))
        self.assert_inside(inside(13, ranges, 7), (False, [(5, 6), (10, 11), (8, 8)]))
        self.assert_inside(inside(13, ranges, 8), (True, [(5, 6), (10, 11), (8, 8)]))
        self.assert_inside(inside(13, ranges, 9), (False, [(5, 6), (10, 11), (8, 8)]))
        self.assert_inside(inside(13, ranges, 10), (True, [(5, 6), (10, 11)]))
        self.assert_inside(inside(13, ranges, 12), (False, [(5, 6), (10, 11)]))

    def test_the_ranges_are_those_that_plain_tells(self):
        ranges = [(8, 9), (2, 3), (4, 5), (2, 2), (0, 0)]
        self.assert_inside(inside(10, ranges, 5), (True, [(2, 5)]))
        self.assert_inside(inside(10, ranges, 0), (True, [(2, 5), (0, 0)]))
        self.assert_inside(inside(10, ranges, 7), (False, [(2, 5), (8, 9)]))

    def test_every_sign_of_the_sets_of_12(self):
        for ranges, fewest_ranges in SETS_OF_12:
            for sign in range(12):
                expected = halving(fewest_ranges, sign)
                self.assertEqual(expected[0], sign in signs_of(ranges))
                self.assert_inside(inside(12, ranges, sign), expected)

    def test_every_sign_of_every_set_of_size_7(self):
        for ranges in all_sets(7):
            for sign in range(7):
                self.assert_inside(inside(7, ranges, sign), halving(fewest(signs_of(ranges)), sign))

    def test_thirty_two_ranges(self):
        ranges = [(sign, sign) for sign in range(0, 64, 2)]
        self.assert_inside(inside(64, ranges, 32), (True, [(32, 32)]))
        self.assert_inside(inside(64, ranges, 63), (False, [(32, 32), (48, 48), (56, 56), (60, 60), (62, 62)]))
        for sign in range(64):
            self.assert_inside(inside(64, ranges, sign), halving(ranges, sign))


class Edges(Case):
    def test_size_1(self):
        self.assertEqual(members(1, []), [])
        self.assertEqual(members(1, [(0, 0)]), [0])
        self.assert_ranges(plain(1, [(0, 0), (0, 0)]), [(0, 0)])
        self.assert_ranges(joined(1, [], [(0, 0)]), [(0, 0)])
        self.assert_ranges(common(1, [(0, 0)], [(0, 0)]), [(0, 0)])
        self.assert_ranges(less(1, [(0, 0)], [(0, 0)]), [])
        self.assert_ranges(others(1, []), [(0, 0)])
        self.assert_ranges(others(1, [(0, 0)]), [])
        self.assertEqual(inside(1, [(0, 0)], 0), (True, [(0, 0)]))

    def test_size_64(self):
        self.assertEqual(members(64, [(0, 63)]), ALL_64)
        self.assertEqual(members(64, [(63, 63)]), [63])
        self.assert_ranges(plain(64, [(32, 63), (0, 31)]), [(0, 63)])
        self.assert_ranges(joined(64, [(63, 63)], [(0, 0)]), [(0, 0), (63, 63)])
        self.assert_ranges(common(64, [(0, 63)], [(63, 63)]), [(63, 63)])
        self.assert_ranges(less(64, [(0, 63)], [(63, 63)]), [(0, 62)])
        self.assert_ranges(others(64, []), [(0, 63)])
        self.assertEqual(inside(64, [(63, 63)], 63), (True, [(63, 63)]))

    def test_forty_ranges(self):
        apart = [(sign, sign) for sign in range(62, -1, -2)]
        forty = apart + [(0, 0)] * 8
        self.assertEqual(len(forty), 40)
        expected = sorted(apart)
        self.assertEqual(members(64, forty), list(range(0, 64, 2)))
        self.assert_ranges(plain(64, forty), expected)
        self.assert_ranges(joined(64, forty, forty), expected)
        self.assert_ranges(common(64, forty, forty), expected)
        self.assert_ranges(less(64, forty, forty), [])
        self.assert_ranges(others(64, forty), [(sign, sign) for sign in range(1, 64, 2)])
        self.assertEqual(inside(64, forty, 33)[0], False)

    def test_the_fortieth_range_counts(self):
        forty = [(0, 0)] * 39 + [(9, 9)]
        self.assertEqual(members(10, forty), [0, 9])
        self.assert_ranges(plain(10, forty), [(0, 0), (9, 9)])


def questions(one, other):
    """Every function, asked of the lists that are handed in."""
    return [
        lambda: members(12, one),
        lambda: plain(12, one),
        lambda: joined(12, one, other),
        lambda: common(12, one, other),
        lambda: less(12, one, other),
        lambda: others(12, one),
        lambda: inside(12, one, 5),
    ]


def list_of(told):
    return told[1] if isinstance(told, tuple) else told


class NothingIsChangedOrKept(Case):
    def setUp(self):
        self.one = [(6, 8), (2, 3), (4, 5), (10, 10)]
        self.other = [(9, 9), (0, 3), (5, 6)]

    def test_what_is_handed_in_is_unchanged(self):
        one, other = copy.deepcopy(self.one), copy.deepcopy(self.other)
        for ask in questions(self.one, self.other):
            ask()
            self.assertEqual((self.one, self.other), (one, other))

    def test_what_is_handed_in_may_be_changed_behind(self):
        for place in range(7):
            one, other = list(self.one), list(self.other)
            told = questions(one, other)[place]()
            before = copy.deepcopy(told)
            one[:] = [(0, 0)]
            other.clear()
            self.assertEqual(told, before)

    def test_a_changed_set_is_told_anew(self):
        ranges = [(1, 2)]
        self.assertEqual(members(12, ranges), [1, 2])
        ranges.append((4, 4))
        self.assertEqual(members(12, ranges), [1, 2, 4])
        self.assertEqual(plain(12, ranges), [(1, 2), (4, 4)])
        self.assertEqual(inside(12, ranges, 4), (True, [(4, 4)]))

    def test_what_is_told_may_be_changed(self):
        for ask in questions(self.one, self.other):
            told = ask()
            before = copy.deepcopy(told)
            list_of(told).append("changed")
            list_of(told)[0] = "changed"
            self.assertEqual(ask(), before)

    def test_what_is_told_of_a_plain_set_is_another_list(self):
        ranges = [(1, 2), (4, 5)]
        for told in (plain(12, ranges), joined(12, ranges, []), less(12, ranges, [])):
            self.assertEqual(told, ranges)
            told.clear()
            self.assertEqual(ranges, [(1, 2), (4, 5)])

    def test_empty_answers_are_not_shared(self):
        for ask in questions([], []):
            before = copy.deepcopy(ask())
            list_of(ask()).append("changed")
            self.assertEqual(ask(), before)

    def test_the_same_question_has_the_same_answer(self):
        asked = questions(self.one, self.other)
        first_time = [ask() for ask in asked]
        for _ in range(3):
            self.assertEqual([ask() for ask in reversed(asked)], first_time[::-1])


if __name__ == "__main__":
    unittest.main()
