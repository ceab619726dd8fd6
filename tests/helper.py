"""Lines of calls for the tests, ways to look into a collection, and plain lists to compare it with."""

import unittest

from keptrows.collection import Collection
from keptrows.rows import first_half, last_half
from keptrows.versions import answers, answers_of

MOST_VERSIONS = 8192
MOST_NUMBERS = 65536
MOST_TOLD = 131072


def begin():
    return [0]


def make(numbers):
    return [1, len(numbers)] + list(numbers)


def insert(v, at, x):
    return [2, v, at, x]


def set_at(v, at, x):
    return [3, v, at, x]


def remove(v, start, end):
    return [4, v, start, end]


def part(v, start, end):
    return [5, v, start, end]


def turn(v, start, end):
    return [6, v, start, end]


def line(*calls):
    return [number for call in calls for number in call]


def single_answers(told):
    """The answers of calls that answer one number each; each has its count, 1, ahead of it."""
    if any(count != 1 for count in told[::2]) or len(told) % 2 != 0:
        raise AssertionError("an answer is not one number with 1 ahead of it")
    return told[1::2]


def answered(*calls):
    return single_answers(answers(line(*calls)))


def collection_after(*calls):
    collection = Collection()
    answers_of(collection, line(*calls))
    return collection


def more_answers(collection, *calls):
    return single_answers(answers_of(collection, line(*calls)))


def numbers_of_row(row):
    if row.height == 0:
        return list(row.numbers)
    return numbers_of_row(first_half(row)) + numbers_of_row(last_half(row))


def contents(collection):
    return [numbers_of_row(row) for row in collection.rows]


def state(collection):
    return (contents(collection), list(collection.sources), collection.told)


class LongTest(unittest.TestCase):
    def check_same(self, found, expected):
        """Like assertEqual, which takes minutes to write the difference of long lists; this tells the first alone."""
        if found != expected:
            self.assertEqual(len(found), len(expected))
            for place, pair in enumerate(zip(found, expected)):
                if pair[0] != pair[1]:
                    self.fail(f"at {place}: {str(pair[0])[:200]} is not {str(pair[1])[:200]}")


class PlainLists:
    """The document's words on whole lists, each version written out."""

    def __init__(self):
        self.begin()

    def begin(self):
        self.versions = [[]]
        self.sources = [-1]
        self.told = 0
        return 0

    def answer(self, call):
        if call[0] == 0:
            return self.begin()
        if call[0] == 1:
            numbers = call[2:]
            if len(numbers) > MOST_NUMBERS:
                return -2
            return self.keep(numbers, -1, len(numbers))
        return self.answer_of_version(*call)

    def answer_of_version(self, number, v, first, second):
        if v >= len(self.versions):
            return -2
        row = self.versions[v]
        if number == 2:
            if first > len(row):
                return -2
            return self.keep(row[:first] + [second] + row[first:], v, 1)
        if number == 3:
            if first >= len(row):
                return -2
            return self.keep(row[:first] + [second] + row[first + 1:], v, 1)
        if first > second or second > len(row):
            return -2
        before, middle, behind = row[:first], row[first:second], row[second:]
        made = {4: before + behind, 5: middle, 6: before + middle[::-1] + behind}
        return self.keep(made[number], v, 0)

    def keep(self, row, source, told):
        if len(self.versions) == MOST_VERSIONS:
            return -1
        if len(row) > MOST_NUMBERS or self.told + told > MOST_TOLD:
            return -3
        self.versions.append(row)
        self.sources.append(source)
        self.told += told
        return len(self.versions) - 1
