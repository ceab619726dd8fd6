"""Lines within the interface's bounds, and just at them: 10000 calls, 30000 numbers."""

import random
import unittest

from keptrows.versions import answers
from tests.helper import (
    MOST_NUMBERS, MOST_VERSIONS,
    LongTest, PlainLists, all_answered, answered, begin, collection_after, contents, count, differ, insert, join,
    length, line, make, more_answers, numbers_of_row, origin, out, part, put, remove, set_at, turn,
)


def first_unlike(row, other):
    return next((place for place in range(len(row)) if row[place] != other[place]), -1)


class LongestLineTest(LongTest):
    def check_bounds(self, calls, most_calls, most_numbers):
        self.assertEqual((len(calls), len(line(*calls))), (most_calls, most_numbers))

    def test_ten_thousand_calls_and_thirty_thousand_numbers(self):
        calls = [begin(), make([1, 2, 3])]
        told = [0, 1]
        grown = 1
        for step in range(4999):
            calls.extend([insert(grown, step % 4, step), make([])])
            for answer in (len(told), len(told) + 1):
                told.append(answer if answer < MOST_VERSIONS else -1)
            grown = told[-2] if told[-2] > 0 else grown
        self.check_bounds(calls, 10000, 30000)
        self.check_same(answered(*calls), told)
        self.assertEqual(told.count(-1), 10000 - MOST_VERSIONS)

    def test_the_longest_make(self):
        calls = [begin(), make([4294967295] * 29990), insert(1, 29990, 0), make([]), begin()]
        self.check_bounds(calls, 5, 30000)
        self.assertEqual(answered(*calls), [0, 1, 2, 3, 0])
        self.check_same(contents(collection_after(*calls[:3]))[2], [4294967295] * 29990 + [0])

    def test_begin_ten_thousand_times(self):
        self.check_same(answers([0] * 10000), [1, 0] * 10000)

    def test_all_versions_with_long_ones_among_them(self):
        source = random.Random(3)
        expected = list(range(2000))
        calls = [begin()] + [make([])] * 2390 + [make(expected)]
        while len(calls) < MOST_VERSIONS:
            start = source.randint(0, 2000)
            end = source.randint(start, 2000)
            calls.append(turn(len(calls) - 1, start, end))
            expected[start:end] = expected[start:end][::-1]
        self.check_bounds(calls, MOST_VERSIONS, 29983)
        self.check_same(answered(*calls), list(range(MOST_VERSIONS)))
        collection = collection_after(*calls)
        self.check_same(numbers_of_row(collection.rows[-1]), expected)
        self.assertEqual(more_answers(collection, turn(MOST_VERSIONS - 1, 0, 2000)), [-1])


    def check_is_a_line(self, calls):
        """The list is as long as the interface allows at most, and its out calls ask for no more than may be."""
        asked = [call[3] - call[2] for call in calls if call[0] == 10 and call[2] < call[3] <= MOST_NUMBERS]
        self.assertLess(sum(asked), 900000)
        self.assertLessEqual(len(calls), 10000)
        self.assertLessEqual(len(line(*calls)), 30000)

    def test_all_versions_with_full_ones_among_them_all_asked(self):
        source = random.Random(17)
        calls = [begin(), make([source.randint(0, 3) for k in range(512)])] + [join(v, v) for v in range(1, 8)]
        full = [8]
        while len(full) < 60:
            v = source.choice(full)
            start = source.randint(0, MOST_NUMBERS - 1)
            calls.append(source.choice([turn(v, start, source.randint(start, MOST_NUMBERS)), set_at(v, start, 1)]))
            full.append(len(calls) - 1)
        calls.extend([remove(8, 5, 7), part(9, 1, MOST_NUMBERS), make([1, 2]), put(68, 9000, 70), make([])])
        while len(calls) < MOST_VERSIONS:
            v = source.choice([len(calls) - 1, source.randint(72, len(calls) - 1)])
            calls.append(source.choice([make([]), make([4]), join(v, 0), join(0, v)]))
        calls.extend([join(71, 0), join(8, 8), put(0, 0, 0), join(MOST_VERSIONS, 0)])
        calls.extend([out(v, 0, MOST_NUMBERS) for v in source.sample(full, 13)])
        while len(calls) < 9990:
            v, w = source.choice(full), source.choice(full + [68, 69, 71])
            start = source.randint(0, MOST_NUMBERS)
            asked = [differ(v, w), origin(v, source.choice([w, source.randint(0, MOST_VERSIONS)])), length(w)]
            if len(calls) % 8 == 0:
                asked.append(count(v, start, source.randint(start, MOST_NUMBERS), source.randint(0, 4)))
                asked.append(out(v, start, min(start + 5, MOST_NUMBERS)))
            calls.append(source.choice(asked))
        self.check_is_a_line(calls)
        plain = PlainLists()
        told = [plain.answer(call) for call in calls]
        self.assertEqual(len(plain.versions), MOST_VERSIONS)
        self.assertEqual(told[MOST_VERSIONS:MOST_VERSIONS + 4], [[-1], [-1], [-1], [-2]])
        self.check_same(all_answered(*calls), told)

    def test_thousands_of_full_versions_each_asked(self):
        source = random.Random(19)
        row = [source.randint(0, 9) for k in range(1024)]
        calls = [begin(), make(row)] + [join(v, v) for v in range(1, 7)]
        told = [[v] for v in range(8)]
        row = row * 64
        v = 7
        while len(line(*calls)) < 29970:
            before = list(row)
            start = source.randint(0, MOST_NUMBERS - 1)
            end = source.randint(start, MOST_NUMBERS)
            x = source.randint(0, 9)
            if v % 3 == 0:
                calls.append(set_at(v, start, x))
                row[start] = x
            else:
                calls.append(turn(v, start, end))
                row[start:end] = row[start:end][::-1]
            v = v + 1
            told.append([v])
            ask = v % 4
            if ask == 0:
                calls.append(out(v, start, min(start + 9, MOST_NUMBERS)))
                told.append([min(9, MOST_NUMBERS - start)] + row[start:start + 9])
            elif ask == 1:
                calls.append(count(v, 0, end, x))
                told.append([row[:end].count(x)])
            elif ask == 2:
                calls.append(differ(v, v - 1))
                told.append([first_unlike(row, before)])
            else:
                calls.append(origin(v, source.randint(1, v)))
                told.append([calls[-1][2]])
        self.assertGreater(v, 3000)
        calls.append(out(v, 0, MOST_NUMBERS))
        told.append([MOST_NUMBERS] + row)
        self.check_is_a_line(calls)
        self.check_same(all_answered(*calls), told)

    def test_thousands_of_counts_over_full_rows(self):
        source = random.Random(23)
        row = [source.randint(0, 99) for k in range(512)]
        calls = [begin(), make(row)] + [join(v, v) for v in range(1, 8)] + [turn(8, 1, MOST_NUMBERS - 1)]
        xs = [source.randint(0, 101) for k in range(5800)]
        asked = [count(source.choice([8, 9]), 0, MOST_NUMBERS, x) for x in xs]
        self.check_is_a_line(calls + asked)
        self.check_same(answered(*calls, *asked)[len(calls):], [128 * row.count(x) for x in xs])

    def test_thousands_of_origins_over_two_long_chains(self):
        calls = [begin(), join(0, 0)] + [join(max(v - 1, 0), 0) for v in range(1, 5000)]
        source = random.Random(29)
        pairs = [(source.randint(1, 5000), source.randint(1, 5000)) for k in range(4997)]
        told = [0 if (v - w) % 2 == 1 else min(v, w) for v, w in pairs]
        self.check_is_a_line(calls + [origin(v, w) for v, w in pairs])
        self.check_same(answered(*calls, *[origin(v, w) for v, w in pairs])[len(calls):], told)

    def test_ten_thousand_differs_of_rows_that_are_the_same(self):
        calls = [begin(), make([6])] + [join(v, v) for v in range(1, 17)]
        calls.extend([remove(17, 77, 177), part(17, 0, 100), put(18, 60000, 19), turn(20, 3, 9)])
        asked = [differ(17, 20 + k % 2) for k in range(9970)]
        self.check_is_a_line(calls + asked)
        self.check_same(answered(*calls, *asked)[len(calls):], [-1] * 9970)


if __name__ == "__main__":
    unittest.main()
