"""Lines of calls for the tests, ways to look into a collection, and plain lists to compare it with."""

import unittest

from keptrows.collection import Collection
from keptrows.rows import LEAF_NUMBERS, first_half, last_half
from keptrows.versions import answers, answers_of

MOST_VERSIONS = 8192
MOST_NUMBERS = 65536
MOST_TOLD = 131072


def begin():
    return [0]


def make(numbers):
    return [1, len(numbers)] + list(numbers)


def insert(v, at, x):
    return [2, v, at, x]


def set_at(v, at, x):
    return [3, v, at, x]


def remove(v, start, end):
    return [4, v, start, end]


def part(v, start, end):
    return [5, v, start, end]


def turn(v, start, end):
    return [6, v, start, end]


def join(v, w):
    return [7, v, w]


def put(v, at, w):
    return [8, v, at, w]


def length(v):
    return [9, v]


def out(v, start, end):
    return [10, v, start, end]


def count(v, start, end, x):
    return [11, v, start, end, x]


def differ(v, w):
    return [12, v, w]


def origin(v, w):
    return [13, v, w]


def line(*calls):
    return [number for call in calls for number in call]


def answer_lists(told):
    """What each call answered, out of the list in which each answer has ahead of it how many numbers it has."""
    lists = []
    at = 0
    while at < len(told):
        end = at + 1 + told[at]
        if told[at] < 1 or end > len(told):
            raise AssertionError(f"at {at} it is told that {told[at]} numbers are answered, of {len(told) - at - 1}")
        lists.append(told[at + 1:end])
        at = end
    return lists


def single_answers(told):
    """The answers of calls that answer one number each."""
    lists = answer_lists(told)
    if any(len(answer) != 1 for answer in lists):
        raise AssertionError("an answer is not one number")
    return [answer[0] for answer in lists]


def answered(*calls):
    return single_answers(answers(line(*calls)))


def all_answered(*calls):
    return answer_lists(answers(line(*calls)))


def collection_after(*calls):
    collection = Collection()
    answers_of(collection, line(*calls))
    return collection


def more_answers(collection, *calls):
    return single_answers(answers_of(collection, line(*calls)))


def more_lists(collection, *calls):
    return answer_lists(answers_of(collection, line(*calls)))


def numbers_of_row(row):
    if row.height == 0:
        return list(row.numbers)
    return numbers_of_row(first_half(row)) + numbers_of_row(last_half(row))


def contents(collection):
    return [numbers_of_row(row) for row in collection.rows]


def rows_within(rows):
    """Every row of which the given ones are built, each once."""
    seen = {}
    waiting = list(rows)
    while waiting:
        row = waiting.pop()
        if id(row) not in seen:
            seen[id(row)] = row
            if row.height > 0:
                waiting.extend([row.left, row.right])
            if row.back is not None:
                waiting.append(row.back)
    return list(seen.values())


def sources(collection):
    """Of which version each was made; -1 for none."""
    return list(collection.origins.sources)


def state(collection):
    return (contents(collection), sources(collection), collection.told)


class LongTest(unittest.TestCase):
    def check_same(self, found, expected):
        """Like assertEqual, which takes minutes to write the difference of long lists; this tells the first alone."""
        if found != expected:
            self.assertEqual(len(found), len(expected))
            for place, pair in enumerate(zip(found, expected)):
                if pair[0] != pair[1]:
                    self.fail(f"at {place}: {str(pair[0])[:200]} is not {str(pair[1])[:200]}")

    def check_built_well(self, collection):
        for row in rows_within(collection.rows):
            if row.height > 0:
                self.assertLessEqual(abs(row.left.height - row.right.height), 1)
                self.assertEqual(row.height, 1 + max(row.left.height, row.right.height))
                self.assertEqual(row.length, row.left.length + row.right.length)
                self.assertGreater(min(row.left.length, row.right.length), 0)
            else:
                self.assertEqual(row.length, len(row.numbers))
                self.assertLessEqual(row.length, LEAF_NUMBERS)


class PlainLists:
    """The document's words on whole lists, each version written out; answer() tells all numbers of an answer."""

    def __init__(self):
        self.begin()

    def begin(self):
        self.versions = [[]]
        self.sources = [-1]
        self.told = 0
        return [0]

    def answer(self, call):
        if call[0] == 0:
            return self.begin()
        if call[0] == 1:
            numbers = call[2:]
            if len(numbers) > MOST_NUMBERS:
                return [-2]
            return self.keep(numbers, -1, len(numbers))
        answerer = (self.insert, self.set_at, self.remove, self.part, self.turn, self.join, self.put,
                    self.length, self.out, self.count, self.differ, self.origin)[call[0] - 2]
        return answerer(*call[1:])

    def lacks(self, *versions):
        return any(v >= len(self.versions) for v in versions)

    def lacks_stretch(self, v, start, end):
        return self.lacks(v) or not start <= end <= len(self.versions[v])

    def insert(self, v, at, x):
        if self.lacks_stretch(v, 0, at):
            return [-2]
        row = self.versions[v]
        return self.keep(row[:at] + [x] + row[at:], v, 1)

    def set_at(self, v, at, x):
        if self.lacks_stretch(v, 0, at + 1):
            return [-2]
        row = self.versions[v]
        return self.keep(row[:at] + [x] + row[at + 1:], v, 1)

    def remove(self, v, start, end):
        if self.lacks_stretch(v, start, end):
            return [-2]
        return self.keep(self.versions[v][:start] + self.versions[v][end:], v, 0)

    def part(self, v, start, end):
        if self.lacks_stretch(v, start, end):
            return [-2]
        return self.keep(self.versions[v][start:end], v, 0)

    def turn(self, v, start, end):
        if self.lacks_stretch(v, start, end):
            return [-2]
        row = self.versions[v]
        return self.keep(row[:start] + row[start:end][::-1] + row[end:], v, 0)

    def join(self, v, w):
        if self.lacks(v, w):
            return [-2]
        return self.keep(self.versions[v] + self.versions[w], v, 0)

    def put(self, v, at, w):
        if self.lacks(v, w) or self.lacks_stretch(v, 0, at):
            return [-2]
        row = self.versions[v]
        return self.keep(row[:at] + self.versions[w] + row[at:], v, 0)

    def length(self, v):
        return [-2] if self.lacks(v) else [len(self.versions[v])]

    def out(self, v, start, end):
        if self.lacks_stretch(v, start, end):
            return [-2]
        return [end - start] + self.versions[v][start:end]

    def count(self, v, start, end, x):
        if self.lacks_stretch(v, start, end):
            return [-2]
        return [self.versions[v][start:end].count(x)]

    def differ(self, v, w):
        if self.lacks(v, w):
            return [-2]
        mine, theirs = self.versions[v], self.versions[w]
        if mine == theirs:
            return [-1]
        for place, pair in enumerate(zip(mine, theirs)):
            if pair[0] != pair[1]:
                return [place]
        return [min(len(mine), len(theirs))]

    def origin(self, v, w):
        if self.lacks(v, w):
            return [-2]
        return [max(set(self.comes_from(v)) & set(self.comes_from(w)), default=-1)]

    def comes_from(self, v):
        found = []
        while v != -1:
            found.append(v)
            v = self.sources[v]
        return found

    def keep(self, row, source, told):
        if len(self.versions) == MOST_VERSIONS:
            return [-1]
        if len(row) > MOST_NUMBERS or self.told + told > MOST_TOLD:
            return [-3]
        self.versions.append(row)
        self.sources.append(source)
        self.told += told
        return [len(self.versions) - 1]
