"""Sets of signs: their members, their fewest ranges, what two of them make, and the search by halving."""

from signsets.errors import BadNumber, BadSet, BadSize

MOST_SIGNS = 64
MOST_RANGES = 40


def check_size(size):
    """Refuse a size that cannot be."""
    # No message repeats a number from outside: Python refuses to write very long ones.
    if not 1 <= size <= MOST_SIGNS:
        raise BadSize("a size is a number from 1 to 64")


def check_set(size, ranges, number):
    """Refuse a set that cannot be, under its number among those handed in."""
    for at, (first, last) in enumerate(ranges):
        if at == MOST_RANGES or not 0 <= first <= last < size:
            raise BadSet(number, at)


def check_number(size, number):
    """Refuse a number that no sign has."""
    if not 0 <= number < size:
        raise BadNumber("no sign has this number")


def marks_of(size, ranges):
    """Tell for each sign whether it is in a set that has been checked."""
    marks = [False] * size
    for first, last in ranges:
        for sign in range(first, last + 1):
            marks[sign] = True
    return marks


def checked_marks(size, sets):
    """Check the size, then the sets in their order, and tell the marks of each."""
    check_size(size)
    for number, ranges in enumerate(sets):
        check_set(size, ranges, number)
    return [marks_of(size, ranges) for ranges in sets]


def ranges_of(marks):
    """Tell the fewest ranges, rising, of the signs that are marked."""
    told = []
    start = 0
    for sign, marked in enumerate(marks):
        if not marked:
            start = sign + 1
        elif start == sign:
            told.append((start, sign))
        else:
            told[-1] = (start, sign)
    return told


def members(size, ranges):
    """Tell the numbers of all signs of a set, rising."""
    marks = checked_marks(size, [ranges])[0]
    return [sign for sign, marked in enumerate(marks) if marked]


def plain(size, ranges):
    """Tell a set by the fewest ranges, rising."""
    return ranges_of(checked_marks(size, [ranges])[0])


def joined(size, one, other):
    """Tell the signs of one or both of two sets, by the fewest ranges."""
    left, right = checked_marks(size, [one, other])
    return ranges_of([a or b for a, b in zip(left, right)])


def common(size, one, other):
    """Tell the signs of both of two sets, by the fewest ranges."""
    left, right = checked_marks(size, [one, other])
    return ranges_of([a and b for a, b in zip(left, right)])


def less(size, one, other):
    """Tell the signs of the one set that are not in the other, by the fewest ranges."""
    left, right = checked_marks(size, [one, other])
    return ranges_of([a and not b for a, b in zip(left, right)])


def others(size, ranges):
    """Tell all signs that are not in a set, by the fewest ranges."""
    marks = checked_marks(size, [ranges])[0]
    return ranges_of([not marked for marked in marks])


def inside(size, ranges, number):
    """Tell whether a sign is in a set, and the ranges that a search by halving looks at."""
    left = plain(size, ranges)
    check_number(size, number)
    looked = []
    low, high = 0, len(left)
    while low < high:
        middle = (low + high) // 2
        first, last = left[middle]
        looked.append((first, last))
        if number < first:
            high = middle
        elif number > last:
            low = middle + 1
        else:
            return True, looked
    return False, looked
