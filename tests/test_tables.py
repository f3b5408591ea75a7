"""Tables of two steps: table, look and least."""

import copy
import unittest

from helper import BAD_SIZES, SIZES, Case, all_sets, families, forty, signs_of
from signsets.errors import BadNumber, BadSize
from signsets.tables import least, look, table

# Sets of size 10 that are asked about by every width.
THREE = [[(0, 4)], [(5, 9)], [(8, 8), (1, 2)]]


def plain_table(size, sets, wide):
    """The table, by looking for each row among those that came."""
    rows, firsts = [], []
    for ranges in sets:
        signs = signs_of(ranges)
        numbers = []
        for start in range(0, size, wide):
            row = "".join("01"[sign in signs] for sign in range(start, start + wide))
            if row not in rows:
                rows.append(row)
            numbers.append(rows.index(row))
        firsts.append(numbers)
    return firsts, rows


def plain_cells(size, sets, wide):
    firsts, rows = plain_table(size, sets, wide)
    return sum(map(len, firsts)) + sum(map(len, rows))


def plain_least(size, sets):
    """The first width of those with the fewest cells."""
    cells = [plain_cells(size, sets, wide) for wide in range(1, size + 1)]
    return min(cells), cells.index(min(cells)) + 1


class Table(Case):
    def assert_table(self, size, sets, wide, expected):
        told = table(size, sets, wide)
        self.assertEqual(told, expected)
        self.assertIs(type(told), tuple)
        firsts, rows = told
        self.assertEqual([type(part) for part in (firsts, rows, *firsts)], [list] * (2 + len(firsts)))
        self.assertEqual({type(number) for numbers in firsts for number in numbers} - {int}, set())
        self.assertEqual({type(row) for row in rows} - {str}, set())

    def test_written_out(self):
        self.assert_table(4, [[(1, 2)]], 1, ([[0, 1, 1, 0]], ["0", "1"]))
        self.assert_table(4, [[(1, 2)]], 2, ([[0, 1]], ["01", "10"]))
        self.assert_table(4, [[(1, 2)]], 4, ([[0]], ["0110"]))
        self.assert_table(6, [[(4, 5), (0, 1)]], 2, ([[0, 1, 0]], ["11", "00"]))

    def test_a_last_stretch_that_goes_beyond_the_size(self):
        self.assert_table(4, [[(1, 2)]], 3, ([[0, 1]], ["011", "000"]))
        self.assert_table(4, [[(0, 3)]], 3, ([[0, 1]], ["111", "100"]))
        self.assert_table(5, [[(0, 4)]], 4, ([[0, 1]], ["1111", "1000"]))
        self.assert_table(5, [[(0, 4)]], 2, ([[0, 0, 1]], ["11", "10"]))
        self.assert_table(5, [[(0, 0), (4, 4)]], 4, ([[0, 0]], ["1000"]))
        self.assert_table(64, [[(0, 63)]], 63, ([[0, 1]], ["1" * 63, "1" + "0" * 62]))

    def test_several_sets(self):
        self.assert_table(10, THREE, 5, ([[0, 1], [1, 0], [2, 3]], ["11111", "00000", "01100", "00010"]))
        self.assert_table(10, THREE, 4, (
            [[0, 1, 2], [2, 3, 4], [5, 2, 1]],
            ["1111", "1000", "0000", "0111", "1100", "0110"],
        ))
        self.assert_table(10, THREE, 10, ([[0], [1], [2]], ["1111100000", "0000011111", "0110000010"]))

    def test_rows_come_set_by_set_and_stretch_by_stretch(self):
        sets = [[(1, 1)], [(0, 0)], [(0, 1)]]
        self.assert_table(4, sets, 2, ([[0, 1], [2, 1], [3, 1]], ["01", "00", "10", "11"]))
        self.assert_table(4, sets[::-1], 2, ([[0, 1], [2, 1], [3, 1]], ["11", "00", "10", "01"]))
        self.assert_table(4, [[], [(0, 3)]], 2, ([[0, 0], [1, 1]], ["00", "11"]))
        self.assert_table(4, [[(0, 3)], []], 2, ([[0, 0], [1, 1]], ["11", "00"]))

    def test_no_set(self):
        for size in SIZES:
            for wide in range(1, size + 1):
                self.assert_table(size, [], wide, ([], []))

    def test_a_set_without_signs_and_one_with_all(self):
        self.assert_table(6, [[]], 2, ([[0, 0, 0]], ["00"]))
        self.assert_table(6, [[(0, 5)]], 2, ([[0, 0, 0]], ["11"]))
        self.assert_table(1, [[], [(0, 0)]], 1, ([[0], [1]], ["0", "1"]))

    def test_sets_that_are_alike(self):
        self.assert_table(4, [[(0, 1)], [(1, 1), (0, 0)], [(0, 1)]], 2, ([[0, 1]] * 3, ["11", "00"]))

    def test_each_width_of_each_family(self):
        for size in SIZES + (10,):
            for sets in families(size):
                for wide in range(1, size + 1):
                    self.assert_table(size, sets, wide, plain_table(size, sets, wide))

    def test_every_two_sets_of_size_4(self):
        for one in all_sets(4):
            for other in all_sets(4):
                for wide in range(1, 5):
                    self.assert_table(4, [one, other], wide, plain_table(4, [one, other], wide))

    def test_more_than_six_sets(self):
        sets = [[(sign, sign)] for sign in range(8)]
        self.assert_table(8, sets, 3, plain_table(8, sets, 3))

    def test_widths_that_cannot_be(self):
        for size in SIZES + (10,):
            for sets in ([], [[]], [[(0, size - 1)]] * 6):
                for wide in (0, -1, -size, size + 1, size + 2, 65, 1000, 10 ** 5000, -10 ** 5000):
                    self.assert_refused(BadNumber, table, size, sets, wide)

    def test_a_bad_set_ahead_of_a_bad_width(self):
        for wide in (0, 11):
            self.assert_bad_set(1, 1, table, 10, [[], [(0, 1), (9, 10)]], wide)
            self.assert_bad_set(0, 40, table, 10, [[(0, 1)] * 41], wide)

    def test_a_bad_size_ahead_of_all(self):
        for size in BAD_SIZES:
            for wide in (0, 1, 100):
                self.assert_refused(BadSize, table, size, [], wide)
                self.assert_refused(BadSize, table, size, [[(1, 0)]], wide)


class Look(Case):
    def assert_looks(self, size, sets, told):
        """By the table, each set has just its signs."""
        for which, ranges in enumerate(sets):
            found = [look(size, told, which, sign) for sign in range(size)]
            self.assertEqual(found, [sign in signs_of(ranges) for sign in range(size)])
            self.assertEqual({type(answer) for answer in found}, {bool})

    def test_written_out(self):
        told = table(10, THREE, 4)
        self.assertIs(look(10, told, 0, 4), True)
        self.assertIs(look(10, told, 0, 5), False)
        self.assertIs(look(10, told, 1, 9), True)
        self.assertIs(look(10, told, 2, 0), False)
        self.assertIs(look(10, told, 2, 8), True)

    def test_by_a_table_that_is_written_out(self):
        told = ([[0, 1], [1, 1]], ["011", "100"])
        self.assertEqual([look(4, told, 0, sign) for sign in range(4)], [False, True, True, True])
        self.assertEqual([look(4, told, 1, sign) for sign in range(4)], [True, False, False, True])

    def test_each_set_and_sign_by_each_width(self):
        for size in SIZES + (10,):
            for sets in families(size):
                for wide in range(1, size + 1):
                    self.assert_looks(size, sets, table(size, sets, wide))

    def test_by_a_copy(self):
        for size in SIZES + (10,):
            for wide in range(1, size + 1):
                sets = [[], [(0, 0)], forty(size)]
                told = table(size, sets, wide)
                self.assert_looks(size, sets, copy.deepcopy(told))
                self.assert_looks(size, sets, (list(told[0]), list(told[1])))
                self.assert_looks(size, sets, table(size, sets, wide))

    def test_by_a_copy_when_the_table_and_the_sets_are_changed(self):
        sets = copy.deepcopy(THREE)
        told = table(10, sets, 4)
        kept = copy.deepcopy(told)
        told[0].clear()
        told[1].clear()
        sets.clear()
        self.assert_looks(10, THREE, kept)

    def test_two_tables_in_turn(self):
        one, other = table(10, THREE, 3), table(10, THREE[::-1], 7)
        for _ in range(2):
            self.assert_looks(10, THREE, one)
            self.assert_looks(10, THREE[::-1], other)

    def test_more_than_six_sets(self):
        sets = [[(sign, sign)] for sign in range(8)]
        self.assert_looks(8, sets, table(8, sets, 3))

    def test_a_set_that_there_is_not(self):
        for size in SIZES:
            for many in (0, 1, 6):
                told = table(size, [[(0, size - 1)]] * many, 1)
                for which in (-1, -many - 1, many, many + 1, 100, 10 ** 5000, -10 ** 5000):
                    self.assert_refused(BadNumber, look, size, told, which, 0)
                    self.assert_refused(BadNumber, look, size, told, which, size)

    def test_a_sign_that_there_is_not(self):
        for size in SIZES + (10,):
            for wide in range(1, size + 1):
                told = table(size, [[(0, size - 1)], []], wide)
                for number in (-1, -size, size, size + 1, size + wide, 10 ** 5000, -10 ** 5000):
                    for which in (0, 1, 2):
                        self.assert_refused(BadNumber, look, size, told, which, number)

    def test_a_sign_beyond_the_size_in_the_last_stretch(self):
        told = table(5, [[(0, 4)]], 4)
        self.assertIs(look(5, told, 0, 4), True)
        for number in (5, 6, 7):
            self.assert_refused(BadNumber, look, 5, told, 0, number)

    def test_a_bad_size_ahead_of_a_bad_number(self):
        for size in BAD_SIZES:
            for told in (([], []), table(10, THREE, 4)):
                for which, number in ((0, 0), (-1, 0), (0, -1), (9, 99)):
                    self.assert_refused(BadSize, look, size, told, which, number)


class Least(Case):
    def assert_least(self, size, sets, expected):
        told = least(size, sets)
        self.assertEqual(told, expected)
        self.assertIs(type(told), tuple)
        self.assertEqual([type(number) for number in told], [int, int])

    def test_written_out(self):
        # Cells by widths 1 to 4: 4 + 1, 2 + 2, 2 + 6, 1 + 4.
        self.assert_least(4, [[(0, 3)]], (4, 2))
        # Cells by widths 1 and 2: 2 + 2, 1 + 2.
        self.assert_least(2, [[(0, 0)]], (3, 2))
        # Cells by widths 1 to 3: 3 + 2, 2 + 4, 1 + 3.
        self.assert_least(3, [[(1, 1)]], (4, 3))
        # Cells by widths 1 to 4: 4 + 2, 2 + 4, 2 + 6, 1 + 4.
        self.assert_least(4, [[(1, 2)]], (5, 4))
        # The least is at width 8: 8 numbers and one row of 8 signs.
        self.assert_least(64, [[(0, 63)]], (16, 8))

    def test_of_several_widths_the_least(self):
        # Cells by widths 1 and 2: 2 + 1, 1 + 2.
        self.assert_least(2, [[]], (3, 1))
        # Cells by widths 1 to 6: 6 + 1, 3 + 2, 2 + 3, 2 + 4, 2 + 5, 1 + 6.
        self.assert_least(6, [[]], (5, 2))

    def test_no_set(self):
        for size in range(1, 65):
            self.assert_least(size, [], (0, 1))

    def test_size_1(self):
        self.assert_least(1, [[]], (2, 1))
        self.assert_least(1, [[(0, 0)]] * 6, (7, 1))
        self.assert_least(1, [[(0, 0)], []], (4, 1))

    def test_each_family_against_all_widths(self):
        for size in SIZES + (10, 37):
            for sets in families(size):
                self.assert_least(size, sets, plain_least(size, sets))

    def test_every_set_of_size_8(self):
        for ranges in all_sets(8):
            self.assert_least(8, [ranges], plain_least(8, [ranges]))

    def test_the_cells_are_those_of_the_table(self):
        for sets in families(64):
            cells, wide = least(64, sets)
            firsts, rows = table(64, sets, wide)
            self.assertEqual(sum(map(len, firsts)) + len("".join(rows)), cells)

    def test_more_than_six_sets(self):
        sets = [[(sign, sign)] for sign in range(8)]
        self.assert_least(8, sets, plain_least(8, sets))


if __name__ == "__main__":
    unittest.main()
