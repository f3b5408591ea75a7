"""Classes of signs that none of some sets tells apart."""

from signsets.ranges import checked_marks, ranges_of


def row_of(size, all_marks):
    """Tell for each sign the number of its class, by sets that have been checked."""
    numbers = {}
    row = []
    for sign in range(size):
        held = tuple([marks[sign] for marks in all_marks])
        # Signs come rising, so a class is numbered where its least sign is met.
        row.append(numbers.setdefault(held, len(numbers)))
    return row


def classes(size, sets):
    """Tell all classes, each by the fewest ranges, in the order of their least signs."""
    row = class_row(size, sets)
    return [ranges_of([mine == number for mine in row]) for number in range(max(row) + 1)]


def class_row(size, sets):
    """Tell for each sign the number of its class."""
    return row_of(size, checked_marks(size, sets))


def by_classes(size, sets):
    """Tell for each set the rising numbers of the classes that it has."""
    all_marks = checked_marks(size, sets)
    row = row_of(size, all_marks)
    return [sorted({number for number, marked in zip(row, marks) if marked}) for marks in all_marks]
