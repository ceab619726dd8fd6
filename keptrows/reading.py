"""What is read of rows: a stretch's numbers, how often one stands there, and where two rows differ."""

from keptrows.rows import Leaf, first_half, last_half

SAME = -1


def numbers_in(row, start, end):
    found = []
    gather(row, start, end, found)
    return found


def gather(row, start, end, found):
    """Puts the stretch's numbers behind those that were found before."""
    if row.height == 0:
        found.extend(row.numbers[start:end])
        return
    first = first_half(row)
    if start < first.length:
        gather(first, start, min(end, first.length), found)
    if end > first.length:
        gather(last_half(row), max(start - first.length, 0), end - first.length, found)


def times_in(row, start, end, x):
    """At how many places of the stretch x stands."""
    if row.height == 0:
        return times_in_leaf(row, start, end, x)
    # Which way round doesn't matter to a count: the stretch is turned here, which spares turning the row.
    if row.turned:
        return times_in_halves(row, row.length - end, row.length - start, x)
    return times_in_halves(row, start, end, x)


def times_in_halves(fork, start, end, x):
    middle = fork.left.length
    times = 0
    if start < middle:
        times = times_in(fork.left, start, min(end, middle), x)
    if end > middle:
        times = times + times_in(fork.right, max(start - middle, 0), end - middle, x)
    return times


def times_in_leaf(leaf, start, end, x):
    if end - start < leaf.length:
        return leaf.numbers[start:end].count(x)
    if leaf.tally is None:
        leaf.tally = tally_of(leaf.numbers)
    return leaf.tally.get(x, 0)


def tally_of(numbers):
    tally = {}
    for number in numbers:
        tally[number] = tally.get(number, 0) + 1
    return tally


def first_difference(row, other):
    """The first place at which one row has another number than the other or is over alone; SAME if there's none."""
    ahead = [row]
    others = [other]
    place = 0
    while ahead and others:
        mine = ahead.pop()
        theirs = others.pop()
        # Equal is here the very same row: shared, so it needs no look.
        if mine == theirs:
            place = place + mine.length
        elif is_to_part(mine, theirs):
            put_halves(ahead, mine)
            others.append(theirs)
        elif theirs.height > 0:
            put_halves(others, theirs)
            ahead.append(mine)
        else:
            alike = alike_from_start(mine.numbers, theirs.numbers)
            place = place + alike
            if alike < min(mine.length, theirs.length):
                return place
            put_rest(ahead, mine, alike)
            put_rest(others, theirs, alike)
    return place if ahead or others else SAME


def is_to_part(row, other):
    # The longer one is parted, so that what both rows share comes up whole on both sides.
    return row.height > 0 and (row.length >= other.length or other.height == 0)


def put_halves(ahead, fork):
    ahead.append(last_half(fork))
    ahead.append(first_half(fork))


def put_rest(ahead, leaf, taken):
    if taken < leaf.length:
        ahead.append(Leaf(leaf.numbers[taken:]))


def alike_from_start(numbers, others):
    """How many numbers are the same in both, one by one from the start."""
    most = min(len(numbers), len(others))
    if numbers[:most] == others[:most]:
        return most
    alike = 0
    while numbers[alike] == others[alike]:
        alike = alike + 1
    return alike
