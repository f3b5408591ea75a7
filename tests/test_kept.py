"""Texts, tables and classes: nothing that is handed in is changed or kept, and answers may be changed."""

import copy
import unittest

from helper import Case, families
from signsets.classes import by_classes, class_row, classes
from signsets.tables import least, look, table
from signsets.texts import read, written

# Alike sets among them, so that their answers could be one list.
SIX = [[(6, 8), (2, 3), (4, 5)], [], [(9, 9), (0, 3)], [(9, 9), (0, 3)], [(0, 11)], []]

# Each function, and what it is handed besides the size 12.
ASKED = [
    (written, (SIX[0],)),
    (written, ([],)),
    (read, ("0,3-5",)),
    (read, ("",)),
    (read, ("^",)),
    (table, (SIX, 5)),
    (table, ([], 5)),
    (look, (table(12, SIX, 5), 2, 3)),
    (least, (SIX,)),
    (least, ([],)),
    (classes, (SIX,)),
    (classes, ([],)),
    (class_row, (SIX,)),
    (by_classes, (SIX,)),
    (by_classes, ([],)),
]


def lists_in(value):
    """All lists in a value, the outer ones first."""
    if not isinstance(value, (list, tuple)):
        return []
    own = [value] if isinstance(value, list) else []
    return own + [inner for item in value for inner in lists_in(item)]


def spoil(value):
    """Change every list in a value, from the inside."""
    for one in reversed(lists_in(value)):
        one.reverse()
        one.append("changed")
        one[0] = "changed"


class Kept(Case):
    def test_what_is_handed_in_is_unchanged(self):
        for ask, handed in ASKED:
            mine = copy.deepcopy(handed)
            ask(12, *mine)
            self.assertEqual(mine, handed)

    def test_what_is_handed_in_may_be_changed_behind(self):
        for ask, handed in ASKED:
            mine = copy.deepcopy(handed)
            told = ask(12, *mine)
            before = copy.deepcopy(told)
            spoil(mine)
            self.assertEqual(told, before)

    def test_what_is_told_may_be_changed_without_what_was_handed_in(self):
        for ask, handed in ASKED:
            mine = copy.deepcopy(handed)
            spoil(ask(12, *mine))
            self.assertEqual(mine, handed)

    def test_a_second_answer_when_all_of_the_first_is_changed(self):
        for ask, handed in ASKED:
            mine = copy.deepcopy(handed)
            told = ask(12, *mine)
            before = copy.deepcopy(told)
            spoil(told)
            self.assertEqual(ask(12, *mine), before)
            spoil(mine)
            self.assertEqual(ask(12, *copy.deepcopy(handed)), before)

    def test_no_list_stands_twice_in_an_answer(self):
        for ask, handed in ASKED:
            found = lists_in(ask(12, *handed))
            self.assertEqual(len({id(one) for one in found}), len(found), ask.__name__)

    def test_one_list_handed_in_twice(self):
        one = [(0, 3)]
        firsts = table(12, [one, one], 4)[0]
        firsts[0].append("changed")
        self.assertEqual(firsts[1], [0, 1, 1])
        by = by_classes(12, [one, one])
        by[0].append("changed")
        self.assertEqual(by[1], [0])

    def test_a_changed_set_is_told_anew(self):
        sets = [[(1, 2)], []]
        self.assertEqual(written(12, sets[0]), "1,2")
        self.assertEqual(class_row(12, sets), [0, 1, 1] + [0] * 9)
        first = table(12, sets, 12)
        self.assertEqual(least(12, sets), (14, 3))
        sets[0].append((3, 3))
        self.assertEqual(written(12, sets[0]), "1-3")
        self.assertEqual(class_row(12, sets), [0, 1, 1, 1] + [0] * 8)
        self.assertEqual(first[1], ["011000000000", "0" * 12])
        self.assertEqual(table(12, sets, 12)[1], ["011100000000", "0" * 12])
        self.assertEqual(look(12, first, 0, 3), False)

    def test_a_changed_table_is_looked_into_anew(self):
        told = table(12, [[(1, 2)]], 4)
        self.assertIs(look(12, told, 0, 3), False)
        told[1][0] = "1111"
        self.assertIs(look(12, told, 0, 3), True)

    def test_the_same_question_has_the_same_answer(self):
        first_time = [ask(12, *handed) for ask, handed in ASKED]
        for _ in range(3):
            again = [ask(12, *handed) for ask, handed in reversed(ASKED)]
            self.assertEqual(again, first_time[::-1])

    def test_each_family_is_unchanged(self):
        for size in (1, 2, 63, 64):
            for sets, same in zip(families(size), families(size)):
                table(size, sets, size)
                for ask in (least, classes, class_row, by_classes):
                    ask(size, sets)
                self.assertEqual(sets, same)


if __name__ == "__main__":
    unittest.main()
