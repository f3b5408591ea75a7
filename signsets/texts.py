"""Texts of sets: the set that a text tells, and the shortest text of a set."""

from signsets.errors import BadText
from signsets.ranges import check_size, checked_marks, marks_of, ranges_of


def item_range(numbers, item):
    """Tell the range of an item by the signs of the known figures, or None for what is no item."""
    head, dash, tail = item.partition("-")
    if head not in numbers:
        return None
    if not dash:
        return numbers[head], numbers[head]
    if tail not in numbers or numbers[head] >= numbers[tail]:
        return None
    return numbers[head], numbers[tail]


def item_ranges(size, items):
    """Tell the ranges of the items, and refuse the first item that cannot stand at its place."""
    # Only figures that Python itself writes for a sign are known: no needless 0, no blank, no plus.
    numbers = {str(sign): sign for sign in range(size)}
    told = []
    end = -1
    for place, item in enumerate(items):
        found = item_range(numbers, item)
        if found is None or found[0] <= end:
            raise BadText(place)
        told.append(found)
        end = found[1]
    return told


def read(size, text):
    """Tell the set of a text, by the fewest ranges."""
    check_size(size)
    rest = text.removeprefix("^")
    # Splitting a text without signs would tell one item without signs, but it has none.
    items = rest.split(",") if rest else []
    marks = marks_of(size, item_ranges(size, items))
    if text.startswith("^"):
        marks = [not marked for marked in marks]
    return ranges_of(marks)


def item_text(first, last):
    """Tell the shortest items for all signs of a range, of several the first as texts."""
    if first == last:
        return str(first)
    # Two signs take as much room with a comma as with a dash, and the comma comes ahead.
    if first + 1 == last:
        return f"{first},{last}"
    return f"{first}-{last}"


def items_text(marks):
    """Tell the shortest items for the signs that are marked, of several the first as texts."""
    return ",".join([item_text(first, last) for first, last in ranges_of(marks)])


def written(size, ranges):
    """Tell the shortest text of a set, of several the first as texts."""
    marks = checked_marks(size, [ranges])[0]
    straight = items_text(marks)
    turned = "^" + items_text([not marked for marked in marks])
    # Of two that are as short, the one that begins with a figure comes ahead.
    return turned if len(turned) < len(straight) else straight
