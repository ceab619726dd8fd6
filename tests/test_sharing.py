"""Versions share what is the same in them, and stay flat enough to be gone through."""

import random
import unittest

from keptrows.collection import Collection
from keptrows.rows import LEAF_NUMBERS, joined, row_of, turned_round
from tests.helper import (
    MOST_NUMBERS, MOST_VERSIONS,
    LongTest, begin, collection_after, count, differ, insert, join, make, more_answers, more_lists, numbers_of_row, out,
    part, put, remove, rows_within, set_at, turn,
)


def numbers_held(collection):
    return sum(len(row.numbers) for row in rows_within(collection.rows) if row.height == 0)


def leaves_of(row):
    return 1 if row.height == 0 else leaves_of(row.left) + leaves_of(row.right)


class WatchedNumbers(tuple):
    """A leaf's numbers that put a mark into the list looks each time more than one of them is looked at."""

    def watched(name):
        def method(self, *handed):
            if name != "__getitem__" or isinstance(handed[0], slice):
                self.looks.append(name)
            return getattr(tuple, name)(self, *handed)
        return method

    __getitem__ = watched("__getitem__")
    __iter__ = watched("__iter__")
    __eq__ = watched("__eq__")
    count = watched("count")


def watched_looks(collection):
    """A list that has a mark for each look at a leaf's numbers from here on."""
    looks = []
    for row in rows_within(collection.rows):
        if row.height == 0:
            row.numbers = WatchedNumbers(row.numbers)
            row.numbers.looks = looks
    return looks


class SharingTest(LongTest):
    def test_all_versions_of_a_full_row_share_what_is_the_same(self):
        source = random.Random(5)
        collection = Collection()
        more_answers(collection, begin(), make([source.randint(0, 4294967295) for k in range(MOST_NUMBERS)]))
        expected = numbers_of_row(collection.rows[1])
        for v in range(1, MOST_VERSIONS - 1):
            start, end = sorted([source.randint(0, len(expected)), source.randint(0, len(expected))])
            if v % 3 == 0:
                call = turn(v, start, end)
                expected[start:end] = expected[start:end][::-1]
            elif v % 3 == 1:
                call = remove(v, start, min(start + 1, len(expected)))
                expected[start:start + 1] = []
            else:
                call = insert(v, start, v)
                expected.insert(start, v)
            self.assertEqual(more_answers(collection, call), [v + 1])
        self.assertEqual(len(collection.rows), MOST_VERSIONS)
        self.check_same(numbers_of_row(collection.rows[-1]), expected)
        self.assertLess(numbers_held(collection), MOST_VERSIONS * MOST_NUMBERS // 50)
        for v in range(0, MOST_VERSIONS, 64):
            more_lists(collection, out(v, 0, collection.rows[v].length))
        self.assertLess(numbers_held(collection), MOST_VERSIONS * MOST_NUMBERS // 50)
        self.check_built_well(collection)

    def test_rows_joined_and_put_together_share_what_they_are_made_of(self):
        collection = collection_after(begin(), make(list(range(1024))), *[join(v, v) for v in range(1, 7)],
                                      make([1, 2, 3]), part(7, 0, MOST_NUMBERS - 3), put(9, 30000, 8), join(8, 9))
        self.assertEqual([row.length for row in collection.rows[7:]], [MOST_NUMBERS, 3] + [MOST_NUMBERS - 3] +
                         [MOST_NUMBERS] * 2)
        self.assertLess(numbers_held(collection), 5 * 1024)
        self.check_built_well(collection)

    def test_what_rows_share_is_not_looked_through_to_compare_them(self):
        collection = collection_after(begin(), make(range(MOST_NUMBERS)), turn(1, 0, MOST_NUMBERS),
                                      set_at(2, MOST_NUMBERS - 1, 5), set_at(2, 70, 5), insert(0, 0, MOST_NUMBERS - 1),
                                      part(2, 1, MOST_NUMBERS), join(5, 6))
        looks = watched_looks(collection)
        self.assertEqual(more_answers(collection, differ(2, 3), differ(3, 4), differ(4, 2), differ(2, 7)),
                         [MOST_NUMBERS - 1, 70, 70, -1])
        self.assertLess(len(looks), 40)

    def test_what_was_found_out_is_not_looked_up_again(self):
        collection = collection_after(begin(), make(range(20000)), make(range(20000)), turn(1, 1, 20000), differ(1, 2),
                                      count(1, 0, 20000, 5))
        looks = watched_looks(collection)
        self.assertEqual(more_answers(collection, differ(1, 2), differ(2, 1), count(1, 0, 20000, 7)), [-1, -1, 1])
        self.assertEqual(len(looks), 0)
        self.assertEqual(more_answers(collection, count(3, 0, 20000, 7), count(1, 3, 19997, 7)), [1, 1])
        self.assertLess(len(looks), 20)

    def test_a_row_grown_number_by_number_stays_flat(self):
        for at_end in (False, True):
            collection = collection_after(begin())
            for v in range(5000):
                more_answers(collection, insert(v, v if at_end else 0, v))
            expected = list(range(5000)) if at_end else list(range(4999, -1, -1))
            self.check_same(numbers_of_row(collection.rows[-1]), expected)
            self.assertLessEqual(collection.rows[-1].height, 9)
            self.assertLess(leaves_of(collection.rows[-1]), 2 * 5000 // LEAF_NUMBERS)
            self.check_built_well(collection)

    def test_a_row_of_many_small_ones_has_few_leaves(self):
        collection = collection_after(begin(), make(range(10)))
        for v in range(1, 2000):
            more_answers(collection, join(v, 1) if v % 2 == 0 else put(v, 7, 1))
        self.assertEqual(collection.rows[-1].length, 20000)
        self.assertLess(leaves_of(collection.rows[-1]), 3 * 20000 // LEAF_NUMBERS)
        self.check_built_well(collection)

    def test_a_row_turned_twice_is_the_very_row(self):
        for size in (3, 1000):
            row = row_of(list(range(size)))
            self.assertIs(turned_round(turned_round(row)), row)
            self.assertIs(turned_round(row), turned_round(row))

    def test_a_row_with_nothing_new_is_the_very_row(self):
        row = row_of(list(range(1000)))
        self.assertIs(joined(row, row_of([])), row)
        self.assertIs(joined(row_of([]), row), row)
        collection = collection_after(begin(), make(list(range(1000))), part(1, 0, 1000))
        self.assertIs(collection.rows[2], collection.rows[1])

    def test_an_empty_stretch_leaves_no_empty_branch(self):
        collection = collection_after(begin(), make(list(range(4 * LEAF_NUMBERS))))
        for start in range(0, 5 * LEAF_NUMBERS, LEAF_NUMBERS):
            more_answers(collection, remove(1, start, start), turn(1, start, start), part(1, start, start),
                         remove(1, 0, start), remove(1, start, 4 * LEAF_NUMBERS))
        self.assertEqual(len(collection.rows), 27)
        self.check_built_well(collection)

    def test_a_row_that_is_cut_down_stays_well_built(self):
        source = random.Random(11)
        collection = collection_after(begin(), make(list(range(20000))))
        expected = list(range(20000))
        v = 1
        while len(expected) > 10:
            start = source.randint(0, len(expected) - 1)
            end = min(len(expected), start + source.randint(1, 40))
            more_answers(collection, remove(v, start, end))
            expected[start:end] = []
            v = v + 1
        self.check_same(numbers_of_row(collection.rows[-1]), expected)
        self.check_built_well(collection)


if __name__ == "__main__":
    unittest.main()
