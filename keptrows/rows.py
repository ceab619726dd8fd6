"""Rows of numbers as balanced trees that are never changed, so that rows share what is the same in them.

A leaf holds some numbers; a fork holds two rows, one behind the other. A turned fork is read from its end,
so that to turn a row takes no walk through it. The heights of a fork's two rows differ by 1 at most, which
keeps every recursion here within some dozens of calls.

Beside what it holds, a row keeps what was once found out of it: the row that is its other way round, and of a
leaf how often each number stands in it.
"""

# Long enough that a row has few leaves to walk through, short enough that to write one anew costs little.
LEAF_NUMBERS = 256


class Leaf:
    def __init__(self, numbers):
        self.numbers = numbers
        self.length = len(numbers)
        self.height = 0
        self.back = None
        self.tally = None


class Fork:
    def __init__(self, left, right, turned=False):
        self.left = left
        self.right = right
        self.turned = turned
        self.length = left.length + right.length
        self.height = 1 + max(left.height, right.height)
        self.back = None


def row_of(numbers):
    if len(numbers) <= LEAF_NUMBERS:
        return Leaf(tuple(numbers))
    middle = len(numbers) // 2
    return Fork(row_of(numbers[:middle]), row_of(numbers[middle:]))


def turned_round(row):
    # Kept, so that what is turned in two versions is the very same row in both.
    if row.back is None:
        back = newly_turned(row)
        back.back = row
        row.back = back
    return row.back


def newly_turned(row):
    if row.height == 0:
        return Leaf(row.numbers[::-1])
    return Fork(row.left, row.right, not row.turned)


def first_half(fork):
    return turned_round(fork.right) if fork.turned else fork.left


def last_half(fork):
    return turned_round(fork.left) if fork.turned else fork.right


def joined(left, right):
    if left.length == 0:
        return right
    if right.length == 0:
        return left
    if goes_into(right, left):
        return balanced(first_half(left), joined(last_half(left), right))
    if goes_into(left, right):
        return balanced(joined(left, first_half(right)), last_half(right))
    if left.height == 0 and right.height == 0 and left.length + right.length <= LEAF_NUMBERS:
        return Leaf(left.numbers + right.numbers)
    return Fork(left, right)


def goes_into(low, high):
    # A leaf goes down to the leaf beside it, so that small ones become one.
    if low.height == 0:
        return high.height > 0
    return high.height > low.height + 1


def balanced(left, right):
    """A fork of two rows whose heights differ by 2 at most."""
    if right.height > left.height + 1:
        return leaned_left(left, first_half(right), last_half(right))
    if left.height > right.height + 1:
        return leaned_right(first_half(left), last_half(left), right)
    return Fork(left, right)


def leaned_left(left, inner, outer):
    # An inner row that is the higher one would be as deep as before, so it is taken apart.
    if inner.height > outer.height:
        return Fork(Fork(left, first_half(inner)), Fork(last_half(inner), outer))
    return Fork(Fork(left, inner), outer)


def leaned_right(outer, inner, right):
    if inner.height > outer.height:
        return Fork(Fork(outer, first_half(inner)), Fork(last_half(inner), right))
    return Fork(outer, Fork(inner, right))


def before_place(row, place):
    if place == 0:
        return row_of([])
    if place == row.length:
        return row
    if row.height == 0:
        return Leaf(row.numbers[:place])
    first = first_half(row)
    if place <= first.length:
        return before_place(first, place)
    return joined(first, before_place(last_half(row), place - first.length))


def from_place(row, place):
    if place == 0:
        return row
    if place == row.length:
        return row_of([])
    if row.height == 0:
        return Leaf(row.numbers[place:])
    first = first_half(row)
    if place >= first.length:
        return from_place(last_half(row), place - first.length)
    return joined(from_place(first, place), last_half(row))


def stretch_of(row, start, end):
    return from_place(before_place(row, end), start)


def with_stretch_as(row, start, end, middle):
    return joined(joined(before_place(row, start), middle), from_place(row, end))
