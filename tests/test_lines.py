"""Whole lines of calls: against plain lists, and what answers() leaves as it was."""

import contextlib
import io
import random
import unittest

from keptrows.versions import answers
from tests.helper import (
    MOST_NUMBERS,
    LongTest, PlainLists, all_answered, begin, collection_after, contents, count, differ, insert, join, length, line,
    make, origin, out, part, put, remove, set_at, sources, turn,
)


def some_place(source, size):
    choice = source.randint(0, 99)
    if choice < 70:
        return source.randint(0, size)
    return 0 if choice < 84 else size if choice < 98 else size + 1


def some_version(source, plain):
    choice = source.randint(0, 99)
    if choice < 60:
        return len(plain.versions) - 1
    return source.randint(0, len(plain.versions) - 1) if choice < 98 else len(plain.versions)


def some_call(source, plain, most):
    """A call on what is there or nearly so; a version of more than most numbers is cut most of the time."""
    v, w = some_version(source, plain), some_version(source, plain)
    size = len(plain.versions[v]) if v < len(plain.versions) else 3
    x = source.choice([0, 4294967295, source.randint(0, 9), source.randint(0, 4294967295)])
    start, end = some_place(source, size), some_place(source, size)
    if start > end and source.random() < 0.95:
        start, end = end, start
    if size > most and source.random() < 0.7:
        return part(v, start, min(end, start + most // 2))
    choice = source.randint(0, 99)
    if choice < 15:
        return insert(v, start, x)
    if choice < 30:
        return set_at(v, start, x)
    if choice < 45:
        return source.choice([join(v, w), put(v, start, w)])
    if choice < 75:
        end = source.choice([end, max(start, min(end, start + 20))])
        return source.choice([remove, turn, turn, turn])(v, start, end)
    return source.choice([length(v), out(v, start, min(end, start + 3000)), count(v, start, end, x), differ(v, w),
                          origin(v, w)])


class PlainListsTest(LongTest):
    def line_with_answers(self, source, first_calls, steps, most):
        """A line, what plain lists answer to it, and these lists."""
        plain = PlainLists()
        calls = list(first_calls)
        told = [plain.answer(call) for call in calls]
        for step in range(steps):
            calls.append(some_call(source, plain, most))
            told.append(plain.answer(calls[-1]))
        return calls, told, plain

    def check_line(self, calls, told, plain):
        self.check_same(all_answered(*calls), told)
        collection = collection_after(*calls)
        self.check_same(contents(collection), plain.versions)
        self.check_same(sources(collection), plain.sources)
        self.assertEqual(collection.told, plain.told)
        self.check_built_well(collection)

    def test_rows_of_some_thousand_numbers(self):
        for seed in range(60):
            source = random.Random(seed)
            makes = [make([source.randint(0, 9) for k in range(size)]) for size in (0, 1, 256, 257, 2000)]
            source.shuffle(makes)
            self.check_line(*self.line_with_answers(source, [begin()] + makes, 150, 4000))

    def test_very_short_rows_with_begin_again(self):
        for seed in range(100):
            source = random.Random(1000 + seed)
            first, told, plain = self.line_with_answers(source, [begin(), make([1, 2, 3]), make([1, 2])], 50, 12)
            second, more_told, plain = self.line_with_answers(source, [begin(), make([2, 2, 2])], 50, 12)
            self.check_line(first + second, told + more_told, plain)

    def test_rows_as_long_as_they_may_be(self):
        refused = 0
        for seed in range(12):
            source = random.Random(2000 + seed)
            first = [begin(), make([source.randint(0, 9) for k in range(1024)])] + [join(v, v) for v in range(1, 7)]
            calls, told, plain = self.line_with_answers(source, first, 150, MOST_NUMBERS - 5)
            self.check_line(calls, told, plain)
            self.assertGreater(max(len(row) for row in plain.versions), MOST_NUMBERS - 2000)
            refused = refused + told.count([-3])
        self.assertGreater(refused, 20)

    def test_each_version_of_a_line_told_counted_and_compared_with_each(self):
        for seed in range(40):
            source = random.Random(3000 + seed)
            size = source.choice([2, 6, 600])
            first = [begin(), make([source.randint(0, 1) for k in range(size)]), make([1] * size)]
            calls, told, plain = self.line_with_answers(source, first, 25, 3 * size)
            asked = []
            for v in range(len(plain.versions)):
                size = len(plain.versions[v])
                asked.extend([length(v), out(v, 0, size), count(v, 0, size, 1), count(v, size // 2, size, 0)])
                for w in range(len(plain.versions)):
                    asked.extend([differ(v, w), origin(v, w)])
            told.extend([plain.answer(call) for call in asked])
            self.check_line(calls + asked, told, plain)


class Guarded(list):
    """A list that tells when it is changed, be it for a while only."""

    def refuse(self, *handed):
        raise AssertionError("what was handed in was changed")

    __setitem__ = __delitem__ = __iadd__ = __imul__ = refuse
    append = extend = insert = pop = remove = clear = reverse = sort = refuse


class HandedInTest(unittest.TestCase):
    calls = line(begin(), make([3, 1, 2]), insert(1, 0, 4), set_at(2, 3, 9), set_at(2, 4, 9), turn(3, 1, 4),
                 remove(4, 0, 1), part(4, 1, 2), join(5, 1), put(7, 2, 5), length(8), out(8, 1, 6), count(8, 0, 9, 9),
                 differ(7, 8), differ(3, 3), origin(8, 6), origin(8, 1), origin(8, 0), out(8, 0, 10), begin(),
                 make([5]), part(1, 0, 1), part(2, 0, 2), out(2, 0, 1))
    told = [1, 0, 1, 1, 1, 2, 1, 3, 1, -2, 1, 4, 1, 5, 1, 6, 1, 7, 1, 8, 1, 9, 6, 5, 1, 9, 1, 3, 3, 1, 2, 1, 2, 1, -1,
            1, 4, 1, 1, 1, -1, 1, -2, 1, 0, 1, 1, 1, 2, 1, -2, 2, 1, 5]

    def test_the_list_is_as_it_was(self):
        handed = list(self.calls)
        self.assertEqual(answers(handed), self.told)
        self.assertEqual(handed, self.calls)

    def test_the_list_is_not_changed_for_a_while_either(self):
        self.assertEqual(answers(Guarded(self.calls)), self.told)

    def test_two_times_answer_alike(self):
        first = answers(self.calls)
        first.append(-9)
        answers(line(begin(), make(list(range(100))), make([1]), join(1, 2), differ(1, 2), count(3, 0, 101, 1)))
        self.assertEqual(answers(self.calls), self.told)

    def test_the_answers_are_a_list_of_whole_numbers(self):
        told = answers(self.calls)
        self.assertIs(type(told), list)
        self.assertEqual({type(number) for number in told}, {int})

    def test_nothing_is_printed(self):
        printed = io.StringIO()
        with contextlib.redirect_stdout(printed), contextlib.redirect_stderr(printed):
            answers(self.calls)
        self.assertEqual(printed.getvalue(), "")


if __name__ == "__main__":
    unittest.main()
