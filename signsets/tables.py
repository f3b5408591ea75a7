"""Tables of two steps: made of some sets, looked into for a sign, and made with the fewest cells."""

from signsets.errors import BadNumber
from signsets.ranges import check_number, check_size, checked_marks


def stretch_rows(marks, wide):
    """Tell the rows of a set, stretch by stretch."""
    text = "".join(["1" if marked else "0" for marked in marks])
    return [text[start:start + wide].ljust(wide, "0") for start in range(0, len(text), wide)]


def table_of(all_marks, wide):
    """Tell the table of sets that have been checked, by a width that can be."""
    # A dict keeps its keys as they came, so they are the unlike rows in their order.
    numbers = {}
    firsts = []
    for marks in all_marks:
        rows = stretch_rows(marks, wide)
        for row in rows:
            numbers.setdefault(row, len(numbers))
        firsts.append([numbers[row] for row in rows])
    return firsts, list(numbers)


def cells_of(told):
    """Tell how many cells a table has."""
    firsts, rows = told
    return sum([len(numbers) for numbers in firsts]) + sum([len(row) for row in rows])


def table(size, sets, wide):
    """Tell the table of some sets by a width: the numbers of the rows of each set, and the rows."""
    all_marks = checked_marks(size, sets)
    if not 1 <= wide <= size:
        raise BadNumber("a width is a number from 1 to the size")
    return table_of(all_marks, wide)


def look(size, told, which, number):
    """Tell by a table whether a sign is in one of its sets."""
    check_size(size)
    firsts, rows = told
    if not 0 <= which < len(firsts):
        raise BadNumber("no set of the table has this number")
    check_number(size, number)
    stretch, place = divmod(number, len(rows[0]))
    return rows[firsts[which][stretch]][place] == "1"


def least(size, sets):
    """Tell the fewest cells of all tables of some sets, and the least width with so few."""
    all_marks = checked_marks(size, sets)
    return min([(cells_of(table_of(all_marks, wide)), wide) for wide in range(1, size + 1)])
