"""Texts of sets: read, its refusals, and written."""

import itertools
import re
import unittest

from helper import BAD_SIZES, SIZES, Case, all_sets, fewest, forty, signs_of, singles, some_sets
from signsets.errors import BadSize, BadText
from signsets.ranges import others, plain
from signsets.texts import read, written

NUMBER = "(0|[1-9][0-9]?)"
ITEM = re.compile(f"{NUMBER}(?:-{NUMBER})?")

# What is no item at any place where the size is 20; those that begin with ^ stand apart.
NO_ITEMS = [
    "", " ", "-", "--", "~", "a", "x9", "9x", ".", "9.0", ";", "9;10", "9:10", "!", "*",
    "00", "01", "09", "007", "000", "010", "020", "100", "1000", "0" * 50, "9" * 50,
    "20", "21", "63", "64", "99", "10-20", "10-64", "10-99", "10-100", "20-21", "99-100",
    "10-10", "9-9", "0-0", "19-19", "12-10", "10-9", "19-0", "1-0",
    "-1", "-9", "9-", "10-", "-9-10", "9-10-", "9--10", "9-10-11", "9-10-", "9-10-9",
    "09-10", "9-010", "9-011", "00-10", "00-1", "0-00", "0-01",
    " 9", "9 ", "9 -10", "9- 10", " 9-10", "9-10 ", "+9", "9-+10", "9_0", "1_1", "1e1", "0x9",
    "9^", "9-^10", "9^10",
]
TURNED_NO_ITEMS = ["^", "^9", "^9-10", "^^", "^^9"]


def answer(size, text):
    """The set of a text by the fewest ranges, or the place of the first item that cannot stand there."""
    rest = re.sub("^\\^", "", text)
    signs, end = set(), -1
    for place, item in enumerate(rest.split(",") if rest else []):
        found = ITEM.fullmatch(item)
        if found is None:
            return place
        first, last = int(found[1]), int(found[2] or found[1])
        if first <= end or last >= size or (found[2] and first >= last):
            return place
        signs |= set(range(first, last + 1))
        end = last
    return fewest(signs if rest == text else set(range(size)) - signs)


def all_strings(letters, most):
    for length in range(most + 1):
        for drawn in itertools.product(letters, repeat=length):
            yield "".join(drawn)


def item_rows(size, start=0):
    """Every row of items with signs from start on, each with a mark bit for every sign of it."""
    yield [], 0
    for first in range(start, size):
        for last in range(first, size):
            item = str(first) if first == last else f"{first}-{last}"
            bits = (1 << last + 1) - (1 << first)
            for rest, more in item_rows(size, last + 1):
                yield [item] + rest, bits | more


def best_texts(size):
    """For every set of a size, as mark bits, the best of all its texts."""
    best = {}
    for items, bits in item_rows(size):
        text = ",".join(items)
        for told, marked in ((text, bits), ("^" + text, (1 << size) - 1 - bits)):
            best[marked] = min(best.get(marked, (len(told), told)), (len(told), told))
    return {marked: text for marked, (length, text) in best.items()}


def best_items(signs):
    """The best items for some signs, of all ways to put neighbours together, from the last sign on."""
    signs = sorted(signs)
    best = [""] * (len(signs) + 1)
    for start in reversed(range(len(signs))):
        ways = []
        for end in range(start, len(signs)):
            if signs[end] - signs[start] != end - start:
                break
            item = str(signs[start]) if start == end else f"{signs[start]}-{signs[end]}"
            ways.append(f"{item},{best[end + 1]}" if best[end + 1] else item)
        best[start] = min(ways, key=lambda way: (len(way), way))
    return best[0]


def best_text(size, signs):
    texts = [best_items(signs), "^" + best_items(set(range(size)) - signs)]
    return min(texts, key=lambda text: (len(text), text))


class TextCase(Case):
    def assert_bad_text(self, place, size, text):
        self.assertEqual(self.assert_refused(BadText, read, size, text).place, place, text)

    def assert_read(self, size, text):
        """A text is read, or refused, as the plain answer says."""
        expected = answer(size, text)
        if isinstance(expected, int):
            self.assert_bad_text(expected, size, text)
        else:
            self.assert_ranges(read(size, text), expected)


class Read(TextCase):
    def test_written_out(self):
        self.assert_ranges(read(20, "7"), [(7, 7)])
        self.assert_ranges(read(20, "0"), [(0, 0)])
        self.assert_ranges(read(20, "19"), [(19, 19)])
        self.assert_ranges(read(20, "3-5"), [(3, 5)])
        self.assert_ranges(read(20, "8-12"), [(8, 12)])
        self.assert_ranges(read(20, "10-19"), [(10, 19)])
        self.assert_ranges(read(20, "0-19"), [(0, 19)])
        self.assert_ranges(read(20, "0,2-4,7,10-12"), [(0, 0), (2, 4), (7, 7), (10, 12)])

    def test_turned_written_out(self):
        self.assert_ranges(read(20, "^7"), [(0, 6), (8, 19)])
        self.assert_ranges(read(20, "^0"), [(1, 19)])
        self.assert_ranges(read(20, "^19"), [(0, 18)])
        self.assert_ranges(read(20, "^3-5"), [(0, 2), (6, 19)])
        self.assert_ranges(read(20, "^0-19"), [])
        self.assert_ranges(read(20, "^0,2-4,7,10-12"), [(1, 1), (5, 6), (8, 9), (13, 19)])

    def test_items_side_by_side_are_put_together(self):
        self.assert_ranges(read(20, "3,4"), [(3, 4)])
        self.assert_ranges(read(20, "3,4-6,7,8-9"), [(3, 9)])
        self.assert_ranges(read(20, "0-9,10-19"), [(0, 19)])
        self.assert_ranges(read(20, "^0-4,5,6-18"), [(19, 19)])

    def test_no_items(self):
        for size in range(1, 65):
            self.assert_ranges(read(size, ""), [])
            self.assert_ranges(read(size, "^"), [(0, size - 1)])

    def test_every_sign_alone_and_none_beyond(self):
        for size in SIZES:
            for sign in range(size):
                self.assert_ranges(read(size, str(sign)), [(sign, sign)])
                self.assert_ranges(read(size, f"^{sign}"), fewest(set(range(size)) - {sign}))
            for sign in range(size, 101):
                self.assert_bad_text(0, size, str(sign))
                self.assert_bad_text(0, size, f"^{sign}")
                self.assert_bad_text(1, size, f"0,{sign}")

    def test_every_two_numbers_with_a_dash(self):
        for size in SIZES:
            for first in range(size + 2):
                for last in range(size + 2):
                    self.assert_read(size, f"{first}-{last}")
                    self.assert_read(size, f"^{first}-{last}")

    def test_every_two_items_of_size_12(self):
        items = [str(first) for first in range(13)]
        items += [f"{first}-{last}" for first in range(13) for last in range(13)]
        for one in items:
            for other in items:
                self.assert_read(12, f"{one},{other}")

    def test_the_longest_texts(self):
        for size in SIZES:
            text = ",".join(str(sign) for sign in range(size))
            self.assert_ranges(read(size, text), [(0, size - 1)])
            self.assert_ranges(read(size, "^" + text), [])
            self.assert_bad_text(size, size, text + ",")
            self.assert_bad_text(size, size, f"^{text},{size}")
            self.assert_bad_text(size, size, f"{text},{size - 1}")

    def test_all_strings_of_few_letters(self):
        for size, letters, most in ((1, "01,-^", 5), (2, "012,-^", 5), (3, "0123,-^", 5), (11, "019,-^", 6)):
            for text in all_strings(letters, most):
                self.assert_read(size, text)

    def test_all_strings_of_two_letters(self):
        letters = [chr(code) for code in range(32, 127)]
        for size in (5, 64):
            for text in all_strings(letters, 2):
                self.assert_read(size, text)


class BadTexts(TextCase):
    def test_no_items_at_first_in_the_middle_and_last(self):
        for bad in NO_ITEMS:
            for ahead in ("", "^"):
                self.assert_bad_text(0, 20, f"{ahead}{bad},15,17-18")
                self.assert_bad_text(1, 20, f"{ahead}3-5,{bad},17-18")
                self.assert_bad_text(2, 20, f"{ahead}3-5,7,{bad}")

    def test_no_items_alone(self):
        for bad in NO_ITEMS:
            if bad:
                self.assert_bad_text(0, 20, bad)
                self.assert_bad_text(0, 20, f"^{bad}")

    def test_the_turning_sign_stands_ahead_of_all_items_only_and_once(self):
        for bad in TURNED_NO_ITEMS:
            self.assert_bad_text(0, 20, f"^{bad}")
            self.assert_bad_text(0, 20, f"^{bad},15,17-18")
            for ahead in ("", "^"):
                self.assert_bad_text(1, 20, f"{ahead}3-5,{bad},17-18")
                self.assert_bad_text(2, 20, f"{ahead}3-5,7,{bad}")
        self.assert_bad_text(0, 20, "^,15,17-18")
        self.assert_bad_text(0, 20, " ^3")

    def test_no_needless_comma(self):
        self.assert_bad_text(0, 20, ",")
        self.assert_bad_text(0, 20, "^,")
        self.assert_bad_text(0, 20, ",3")
        self.assert_bad_text(1, 20, "3,")
        self.assert_bad_text(1, 20, "3,,5")
        self.assert_bad_text(2, 20, "^3,5,")
        self.assert_bad_text(1, 20, "3, 5")

    def test_an_item_that_does_not_begin_above_the_end_of_the_one_ahead(self):
        for bad in ("0", "4", "7", "8", "0-1", "0-19", "4-5", "7-8", "7-12", "8-9", "8-19"):
            for ahead in ("", "^"):
                self.assert_bad_text(1, 20, f"{ahead}7-8,{bad}")
                self.assert_bad_text(1, 20, f"{ahead}7-8,{bad},17-18")
                self.assert_bad_text(2, 20, f"{ahead}3-5,8,{bad}")
                self.assert_bad_text(2, 20, f"{ahead}3-5,7-8,{bad},10")

    def test_above_the_end_of_the_one_ahead(self):
        self.assert_ranges(read(20, "7-8,9"), [(7, 9)])
        self.assert_ranges(read(20, "7-9,10-11"), [(7, 11)])
        self.assert_bad_text(1, 20, "2-9,3")
        self.assert_bad_text(2, 20, "2-9,10,9")

    def test_numbers_rise_as_numbers_not_as_texts(self):
        self.assert_ranges(read(20, "9-10"), [(9, 10)])
        self.assert_ranges(read(20, "2,10"), [(2, 2), (10, 10)])
        self.assert_bad_text(1, 20, "10,2")
        self.assert_bad_text(0, 20, "10-2")

    def test_the_first_of_several(self):
        self.assert_bad_text(0, 20, "x,5,3,")
        self.assert_bad_text(1, 20, "5,3,x")
        self.assert_bad_text(1, 20, "5,x,3")
        self.assert_bad_text(2, 20, "5,6,20,7,x")
        self.assert_bad_text(3, 20, "^5,6,7-8,8,,")

    def test_the_same_item_at_a_larger_size(self):
        self.assert_bad_text(1, 20, "3,20")
        self.assert_ranges(read(21, "3,20"), [(3, 3), (20, 20)])
        self.assert_bad_text(0, 63, "0-63")
        self.assert_ranges(read(64, "0-63"), [(0, 63)])

    def test_texts_of_two_thousand_signs_and_more(self):
        for length in (2000, 2500):
            self.assert_bad_text(0, 64, "0" * length)
            self.assert_bad_text(0, 64, " " * length)
            self.assert_bad_text(0, 64, "," * length)
            self.assert_bad_text(0, 64, "^" * length)
            self.assert_bad_text(0, 64, "-" * length)
            self.assert_bad_text(1, 64, "0," * (length // 2))
            self.assert_bad_text(1, 64, "5,6-" + "7" * (length - 4))
            self.assert_bad_text(64, 64, ",".join(str(sign) for sign in range(length // 4)))

    def test_a_bad_size_ahead_of_a_bad_text(self):
        for size in BAD_SIZES:
            for text in ("", "^", "0", "x", "1-0", ",", "64"):
                self.assert_refused(BadSize, read, size, text)


class Written(TextCase):
    def assert_written(self, size, ranges, expected):
        told = written(size, ranges)
        self.assertEqual(told, expected)
        self.assertIs(type(told), str)
        self.assert_ranges(read(size, told), fewest(signs_of(ranges)))

    def test_written_out(self):
        self.assert_written(20, [], "")
        self.assert_written(20, [(0, 19)], "^")
        self.assert_written(20, [(7, 7)], "7")
        self.assert_written(20, [(3, 5)], "3-5")
        self.assert_written(20, [(10, 12), (3, 5), (7, 7)], "3-5,7,10-12")
        self.assert_written(20, [(4, 5), (3, 3), (4, 4)], "3-5")
        self.assert_written(20, [(0, 6), (8, 19)], "^7")
        self.assert_written(20, [(0, 2), (6, 19)], "^3-5")
        self.assert_written(20, [(1, 19)], "^0")
        self.assert_written(20, [(0, 18)], "^19")
        self.assert_written(20, [(0, 8)], "0-8")

    def test_two_neighbours_take_a_comma(self):
        self.assert_written(20, [(3, 4)], "3,4")
        self.assert_written(20, [(9, 10)], "9,10")
        self.assert_written(20, [(12, 13), (0, 1), (5, 7)], "0,1,5-7,12,13")
        self.assert_written(20, [(0, 2), (5, 19)], "^3,4")

    def test_of_two_as_short_the_one_that_is_not_turned(self):
        self.assert_written(1, [(0, 0)], "0")
        self.assert_written(11, [(0, 9)], "0-9")
        self.assert_written(13, [(0, 9), (11, 11)], "0-9,11")
        self.assert_written(64, [(0, 0), (10, 62)], "0,10-62")
        self.assert_written(64, [(11, 14), (40, 63)], "11-14,40-63")

    def test_the_longest(self):
        self.assert_written(64, singles(range(0, 64, 2)), ",".join(str(sign) for sign in range(0, 64, 2)))
        self.assert_written(64, singles(range(1, 64, 2)), ",".join(str(sign) for sign in range(1, 64, 2)))
        self.assert_written(63, singles(range(0, 63, 2)), "^" + ",".join(str(sign) for sign in range(1, 63, 2)))

    def test_none_and_all_signs_of_each_size(self):
        for size in range(1, 65):
            self.assert_written(size, [], "")
            self.assert_written(size, [(0, size - 1)], "^" if size > 1 else "0")

    def test_the_best_of_all_texts_up_to_size_12(self):
        for size in range(1, 13):
            best = best_texts(size)
            self.assertEqual(len(best), 1 << size)
            for bits, ranges in enumerate(all_sets(size)):
                self.assert_written(size, ranges, best[bits])

    def test_the_best_of_all_strings_up_to_size_4(self):
        for size in range(1, 5):
            best = {}
            for text in all_strings("0123,-^", 5):
                told = answer(size, text)
                if isinstance(told, list):
                    best.setdefault(tuple(told), []).append((len(text), text))
            for ranges in all_sets(size):
                self.assert_written(size, ranges, min(best[tuple(plain(size, ranges))])[1])

    def test_no_shorter_and_none_as_short_ahead_of_it_is_read_as_the_set(self):
        for ranges in all_sets(4):
            told = written(4, ranges)
            for text in all_strings("0123,-^", len(told)):
                if (len(text), text) < (len(told), told) and isinstance(answer(4, text), list):
                    self.assertNotEqual(read(4, text), plain(4, ranges), text)

    def test_some_sets(self):
        for size in SIZES + (10, 11, 20, 40):
            for ranges in some_sets(size):
                self.assert_written(size, ranges, best_text(size, signs_of(ranges)))
                self.assert_written(size, others(size, ranges), best_text(size, signs_of(others(size, ranges))))

    def test_every_range_of_the_sizes(self):
        for size in SIZES:
            for first in range(size):
                for last in range(first, size):
                    self.assert_written(size, [(first, last)], best_text(size, signs_of([(first, last)])))

    def test_forty_ranges(self):
        for size in SIZES:
            self.assertEqual(len(forty(size)), 40)
            self.assert_written(size, forty(size), best_text(size, signs_of(forty(size))))
        self.assert_written(64, [(5, 5)] * 39 + [(63, 63)], "5,63")

    def test_what_is_written_of_what_is_read_is_as_short(self):
        for text in ("0-1", "3,4,5,6", "^", "^0-18", "0,1-2,3-4,5"):
            told = written(20, read(20, text))
            self.assertLessEqual((len(told), told), (len(text), text))
            self.assertEqual(read(20, told), read(20, text))


if __name__ == "__main__":
    unittest.main()
