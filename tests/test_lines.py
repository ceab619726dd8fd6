"""Whole lines of calls: against plain lists, as long as they may be, and what answers() leaves as it was."""

import contextlib
import io
import random
import unittest

from keptrows.collection import Collection
from keptrows.rows import LEAF_NUMBERS, joined, row_of
from keptrows.versions import answers
from tests.helper import (
    MOST_NUMBERS, MOST_VERSIONS,
    LongTest, PlainLists, answered, begin, collection_after, contents, insert, line, make, more_answers, numbers_of_row,
    part, remove, set_at, turn,
)


def some_place(source, length):
    return source.choice([0, length, source.randint(0, length), source.randint(0, length), length + 1])


def some_call(source, plain):
    v = len(plain.versions) - source.choice([0, 1, 1, 1, 1, 1, 2, source.randint(1, len(plain.versions))])
    length = len(plain.versions[v]) if v < len(plain.versions) else 3
    x = source.choice([0, 4294967295, source.randint(0, 4294967295)])
    start, end = some_place(source, length), some_place(source, length)
    if start > end and source.random() < 0.9:
        start, end = end, start
    if source.random() < 0.6:
        end = min(end, start + 20)
    choice = source.randint(0, 99)
    if choice < 1:
        return begin()
    if choice < 8:
        return make([source.randint(0, 9) for k in range(source.choice([0, 1, 64, 65, 500]))])
    if choice < 35:
        return insert(v, start, x)
    if choice < 50:
        return set_at(v, start, x)
    return source.choice([remove, part, turn, turn, turn])(v, start, min(end, 2147483647))


class PlainListsTest(LongTest):
    def test_lines_answer_and_make_the_same_as_plain_lists(self):
        for seed in range(60):
            source = random.Random(seed)
            plain = PlainLists()
            calls = [begin()]
            told = [0]
            for step in range(120):
                call = some_call(source, plain)
                calls.append(call)
                told.append(plain.answer(call))
            collection = collection_after(*calls)
            self.check_same(answered(*calls), told)
            self.check_same(contents(collection), plain.versions)
            self.check_same(collection.sources, plain.sources)
            self.assertEqual(collection.told, plain.told)


def rows_within(rows):
    """Every row of which the given ones are built, each once."""
    seen = {}
    waiting = list(rows)
    while waiting:
        row = waiting.pop()
        if id(row) not in seen:
            seen[id(row)] = row
            if row.height > 0:
                waiting.extend([row.left, row.right])
    return list(seen.values())


class SharingTest(LongTest):
    def check_built_well(self, collection):
        for row in rows_within(collection.rows):
            if row.height > 0:
                self.assertLessEqual(abs(row.left.height - row.right.height), 1)
                self.assertEqual(row.height, 1 + max(row.left.height, row.right.height))
                self.assertEqual(row.length, row.left.length + row.right.length)
                self.assertGreater(min(row.left.length, row.right.length), 0)
            else:
                self.assertEqual(row.length, len(row.numbers))
                self.assertLessEqual(row.length, LEAF_NUMBERS)

    def test_all_versions_of_a_full_row_share_what_is_the_same(self):
        source = random.Random(5)
        collection = Collection()
        more_answers(collection, begin(), make([source.randint(0, 4294967295) for k in range(MOST_NUMBERS)]))
        expected = numbers_of_row(collection.rows[1])
        for v in range(1, MOST_VERSIONS - 1):
            start, end = sorted([source.randint(0, len(expected)), source.randint(0, len(expected))])
            if v % 3 == 0:
                call = turn(v, start, end)
                expected[start:end] = expected[start:end][::-1]
            elif v % 3 == 1:
                call = remove(v, start, min(start + 1, len(expected)))
                expected[start:start + 1] = []
            else:
                call = insert(v, start, v)
                expected.insert(start, v)
            self.assertEqual(more_answers(collection, call), [v + 1])
        self.assertEqual(len(collection.rows), MOST_VERSIONS)
        self.check_same(numbers_of_row(collection.rows[-1]), expected)
        held = sum(len(row.numbers) for row in rows_within(collection.rows) if row.height == 0)
        self.assertLess(held, MOST_VERSIONS * MOST_NUMBERS // 100)
        self.check_built_well(collection)

    def test_a_row_grown_number_by_number_stays_flat(self):
        for at_end in (False, True):
            collection = collection_after(begin())
            for v in range(5000):
                more_answers(collection, insert(v, v if at_end else 0, v))
            expected = list(range(5000)) if at_end else list(range(4999, -1, -1))
            self.check_same(numbers_of_row(collection.rows[-1]), expected)
            self.assertLessEqual(collection.rows[-1].height, 18)
            self.check_built_well(collection)

    def test_a_row_with_nothing_new_is_the_very_row(self):
        row = row_of(list(range(1000)))
        self.assertIs(joined(row, row_of([])), row)
        self.assertIs(joined(row_of([]), row), row)
        collection = collection_after(begin(), make(list(range(1000))), part(1, 0, 1000))
        self.assertIs(collection.rows[2], collection.rows[1])

    def test_an_empty_stretch_leaves_no_empty_branch(self):
        collection = collection_after(begin(), make(list(range(4 * LEAF_NUMBERS))))
        for start in range(0, 5 * LEAF_NUMBERS, LEAF_NUMBERS):
            more_answers(collection, remove(1, start, start), turn(1, start, start), part(1, start, start),
                         remove(1, 0, start), remove(1, start, 4 * LEAF_NUMBERS))
        self.assertEqual(len(collection.rows), 27)
        self.check_built_well(collection)

    def test_a_row_that_is_cut_down_stays_well_built(self):
        source = random.Random(11)
        collection = collection_after(begin(), make(list(range(20000))))
        expected = list(range(20000))
        v = 1
        while len(expected) > 10:
            start = source.randint(0, len(expected) - 1)
            end = min(len(expected), start + source.randint(1, 40))
            more_answers(collection, remove(v, start, end))
            expected[start:end] = []
            v = v + 1
        self.check_same(numbers_of_row(collection.rows[-1]), expected)
        self.check_built_well(collection)


class LongestLineTest(LongTest):
    """Lines within the interface's bounds, and just at them: 10000 calls, 30000 numbers."""

    def check_bounds(self, calls, most_calls, most_numbers):
        self.assertEqual((len(calls), len(line(*calls))), (most_calls, most_numbers))

    def test_ten_thousand_calls_and_thirty_thousand_numbers(self):
        calls = [begin(), make([1, 2, 3])]
        told = [0, 1]
        grown = 1
        for step in range(4999):
            calls.extend([insert(grown, step % 4, step), make([])])
            for answer in (len(told), len(told) + 1):
                told.append(answer if answer < MOST_VERSIONS else -1)
            grown = told[-2] if told[-2] > 0 else grown
        self.check_bounds(calls, 10000, 30000)
        self.check_same(answered(*calls), told)
        self.assertEqual(told.count(-1), 10000 - MOST_VERSIONS)

    def test_the_longest_make(self):
        calls = [begin(), make([4294967295] * 29990), insert(1, 29990, 0), make([]), begin()]
        self.check_bounds(calls, 5, 30000)
        self.assertEqual(answered(*calls), [0, 1, 2, 3, 0])
        self.check_same(contents(collection_after(*calls[:3]))[2], [4294967295] * 29990 + [0])

    def test_begin_ten_thousand_times(self):
        self.check_same(answers([0] * 10000), [1, 0] * 10000)

    def test_all_versions_with_long_ones_among_them(self):
        source = random.Random(3)
        expected = list(range(2000))
        calls = [begin()] + [make([])] * 2390 + [make(expected)]
        while len(calls) < MOST_VERSIONS:
            start = source.randint(0, 2000)
            end = source.randint(start, 2000)
            calls.append(turn(len(calls) - 1, start, end))
            expected[start:end] = expected[start:end][::-1]
        self.check_bounds(calls, MOST_VERSIONS, 29983)
        self.check_same(answered(*calls), list(range(MOST_VERSIONS)))
        collection = collection_after(*calls)
        self.check_same(numbers_of_row(collection.rows[-1]), expected)
        self.assertEqual(more_answers(collection, turn(MOST_VERSIONS - 1, 0, 2000)), [-1])


class Guarded(list):
    """A list that tells when it is changed, be it for a while only."""

    def refuse(self, *handed):
        raise AssertionError("what was handed in was changed")

    __setitem__ = __delitem__ = __iadd__ = __imul__ = refuse
    append = extend = insert = pop = remove = clear = reverse = sort = refuse


class HandedInTest(unittest.TestCase):
    calls = line(begin(), make([3, 1, 2]), insert(1, 0, 4), set_at(2, 3, 9), set_at(2, 4, 9), turn(3, 1, 4),
                 remove(4, 0, 1), part(4, 1, 2), begin(), make([5]), part(1, 0, 1), part(2, 0, 2))
    told = [1, 0, 1, 1, 1, 2, 1, 3, 1, -2, 1, 4, 1, 5, 1, 6, 1, 0, 1, 1, 1, 2, 1, -2]

    def test_the_list_is_as_it_was(self):
        handed = list(self.calls)
        self.assertEqual(answers(handed), self.told)
        self.assertEqual(handed, self.calls)

    def test_the_list_is_not_changed_for_a_while_either(self):
        self.assertEqual(answers(Guarded(self.calls)), self.told)

    def test_two_times_answer_alike(self):
        first = answers(self.calls)
        first.append(-9)
        answers(line(begin(), make(list(range(100))), make([1])))
        self.assertEqual(answers(self.calls), self.told)

    def test_the_answers_are_a_list_of_whole_numbers(self):
        told = answers(self.calls)
        self.assertIs(type(told), list)
        self.assertEqual({type(number) for number in told}, {int})

    def test_nothing_is_printed(self):
        printed = io.StringIO()
        with contextlib.redirect_stdout(printed), contextlib.redirect_stderr(printed):
            answers(self.calls)
        self.assertEqual(printed.getvalue(), "")


if __name__ == "__main__":
    unittest.main()
