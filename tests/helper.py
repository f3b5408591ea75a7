"""What several test files use: sets to ask about, plain answers to compare with, and refusals."""

import unittest

from signsets.errors import BadSet, SetError

SIZES = (1, 2, 63, 64)
BAD_SIZES = [0, -1, -64, 65, 66, 1000, 10 ** 5000, -10 ** 5000]


def signs_of(ranges):
    return {sign for first, last in ranges for sign in range(first, last + 1)}


def fewest(signs):
    """The fewest ranges: a range begins where the sign ahead is missing, and ends where the next is."""
    firsts = [sign for sign in sorted(signs) if sign - 1 not in signs]
    lasts = [sign for sign in sorted(signs) if sign + 1 not in signs]
    return list(zip(firsts, lasts))


def singles(signs):
    """A set told sign by sign, falling."""
    return [(sign, sign) for sign in sorted(signs, reverse=True)]


def all_sets(size):
    """Every set of the size, each as single signs, falling."""
    return [singles(sign for sign in range(size) if bits >> sign & 1) for bits in range(1 << size)]


def forty(size):
    """Forty ranges, out of order and over one another."""
    firsts = [turn * 5 % size for turn in range(40)]
    return [(first, min(first + turn % 3, size - 1)) for turn, first in enumerate(firsts)]


def some_sets(size):
    """Sets of no range, of one, of several and of forty."""
    top = size - 1
    return [
        [],
        [(0, top)],
        [(0, 0)],
        [(top, top)],
        singles(range(0, size, 2)),
        singles(range(1, size, 2)),
        [(0, top // 2)],
        forty(size),
        [(size // 2, top)],
        singles(range(0, size, 3)),
        [(sign, min(sign + 4, top)) for sign in range(0, size, 9)],
        [(turn * 12 % size, turn * 12 % size) for turn in range(40)],
        [(top, top), (0, 0)],
    ]


def families(size):
    """Lists of sets to ask about at once: of no set, of one and of six."""
    sets = some_sets(size)
    alone = [[one] for one in sets]
    six = [sets[start:start + 6] for start in range(len(sets) - 5)]
    alike = [[one] * 6 for one in ([], [(0, size - 1)], forty(size))]
    return [[]] + alone + six + alike


class Case(unittest.TestCase):
    def assert_ranges(self, told, expected):
        self.assertEqual(told, expected)
        self.assertIs(type(told), list)
        for item in told:
            self.assertIs(type(item), tuple)

    def assert_refused(self, kind, ask, *handed):
        with self.assertRaises(SetError) as caught:
            ask(*handed)
        self.assertIs(type(caught.exception), kind)
        self.assertIsInstance(caught.exception, ValueError)
        return caught.exception

    def assert_bad_set(self, number, at, ask, *handed):
        error = self.assert_refused(BadSet, ask, *handed)
        self.assertEqual((error.number, error.at), (number, at))
