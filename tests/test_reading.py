"""Point 4: what length, out, count, differ and origin answer."""

import random
import unittest

from keptrows.origins import Origins
from keptrows.versions import answers
from tests.helper import (
    MOST_NUMBERS, MOST_VERSIONS,
    LongTest, PlainLists, all_answered, answered, begin, collection_after, count, differ, insert, join, length, line,
    make, more_answers, more_lists, origin, out, part, put, remove, set_at, turn,
)

LONG = [(37 * k) % 1009 for k in range(1500)]


def doubled(numbers, times):
    """The calls that make version 1 of the numbers and then, up to version times + 1, each twice as long."""
    return [make(numbers)] + [join(v, v) for v in range(1, times + 1)]


class LengthTest(unittest.TestCase):
    def test_of_each_version(self):
        calls = (begin(), make([4, 5, 6]), insert(1, 0, 1), set_at(2, 0, 9), remove(3, 1, 3), part(3, 1, 2),
                 turn(3, 0, 4), join(1, 2), put(1, 1, 7))
        lengths = [length(v) for v in range(9)]
        self.assertEqual(answered(*calls, *lengths)[9:], [0, 3, 4, 4, 2, 1, 4, 7, 10])

    def test_of_the_empty_row_and_of_a_full_one(self):
        calls = doubled([3], 16)
        self.assertEqual(answered(begin(), *calls, length(0), length(17), part(17, 5, 5), length(18))[-4:],
                         [0, MOST_NUMBERS, 18, 0])

    def test_form_of_the_answer(self):
        self.assertEqual(answers(line(begin(), make([8, 8]), length(1), length(0), length(2))),
                         [1, 0, 1, 1, 1, 2, 1, 0, 1, -2])


class OutTest(LongTest):
    def test_form_of_the_answer(self):
        calls = line(begin(), make([5, 6, 7, 8]), out(1, 1, 4), out(1, 2, 2), out(1, 3, 2), length(1))
        self.assertEqual(answers(calls), [1, 0, 1, 1, 4, 3, 6, 7, 8, 1, 0, 1, -2, 1, 4])

    def test_numbers_like_refusals_and_the_largest(self):
        calls = line(begin(), make([4294967295, 0, 4294967295]), out(1, 0, 3))
        self.assertEqual(answers(calls), [1, 0, 1, 1, 4, 3, 4294967295, 0, 4294967295])

    def test_all_stretches_of_a_short_row(self):
        row = [9, 8, 7, 6, 5]
        for end in range(6):
            for start in range(end + 1):
                self.assertEqual(all_answered(begin(), make(row), out(1, start, end))[-1],
                                 [end - start] + row[start:end])

    def test_the_empty_row(self):
        self.assertEqual(all_answered(begin(), make([]), out(0, 0, 0), out(1, 0, 0))[2:], [[0], [0]])

    def test_many_stretches_of_longer_rows(self):
        back = LONG[:100] + LONG[100:1400][::-1] + LONG[1400:]
        collection = collection_after(begin(), make(LONG), turn(1, 100, 1400))
        for start in list(range(0, 1500, 47)) + [1499, 1500]:
            for end in list(range(start, 1501, 61)) + [1500]:
                told = more_lists(collection, out(1, start, end), out(2, start, end))
                self.check_same(told, [[end - start] + LONG[start:end], [end - start] + back[start:end]])

    def test_each_place_of_a_long_row(self):
        collection = collection_after(begin(), make(LONG), turn(1, 3, 1490), join(2, 1))
        row = LONG[:3] + LONG[3:1490][::-1] + LONG[1490:] + LONG
        told = more_lists(collection, *[out(3, place, place + 1) for place in range(3000)])
        self.check_same(told, [[1, number] for number in row])

    def test_the_whole_of_a_full_row(self):
        told = all_answered(begin(), *doubled([1, 2, 3, 4], 14), turn(15, 1, MOST_NUMBERS), out(15, 0, MOST_NUMBERS),
                            out(16, 0, MOST_NUMBERS))
        self.check_same(told[-2], [MOST_NUMBERS] + [1, 2, 3, 4] * 16384)
        self.check_same(told[-1], [MOST_NUMBERS, 1] + [4, 3, 2, 1] * 16383 + [4, 3, 2])

    def test_the_old_versions_are_as_before(self):
        told = all_answered(begin(), make([1, 2, 3]), insert(1, 0, 9), turn(2, 0, 4), join(3, 1), put(4, 2, 4),
                            remove(5, 0, 14), out(0, 0, 0), out(1, 0, 3), out(2, 0, 4), out(3, 0, 4), out(4, 0, 7),
                            out(5, 0, 14), out(6, 0, 0))
        rows = [[], [1, 2, 3], [9, 1, 2, 3], [3, 2, 1, 9], [3, 2, 1, 9, 1, 2, 3],
                [3, 2] + [3, 2, 1, 9, 1, 2, 3] + [1, 9, 1, 2, 3], []]
        self.assertEqual(told[7:], [[len(row)] + row for row in rows])


class CountTest(LongTest):
    def check(self, collection, v, row, start, end, x):
        self.assertEqual(more_answers(collection, count(v, start, end, x)), [row[start:end].count(x)],
                         (v, start, end, x))

    def test_over_a_part_the_whole_and_the_empty_stretch(self):
        row = (5, 6, 5, 5, 7)
        told = answered(begin(), make(row), count(1, 0, 5, 5), count(1, 1, 5, 5), count(1, 0, 3, 5), count(1, 1, 2, 5),
                        count(1, 2, 2, 5), count(1, 0, 0, 5), count(1, 5, 5, 7), count(1, 0, 5, 8), count(1, 4, 5, 7),
                        count(0, 0, 0, 0))
        self.assertEqual(told[2:], [3, 2, 2, 0, 0, 0, 0, 0, 1, 0])

    def test_the_edges_of_the_numbers(self):
        told = answered(begin(), make([0, 4294967295, 0, 0]), count(1, 0, 4, 0), count(1, 0, 4, 4294967295),
                        count(1, 2, 4, 0), count(1, 2, 4, 4294967295))
        self.assertEqual(told[2:], [3, 1, 2, 0])

    def test_longer_rows_after_turns(self):
        source = random.Random(21)
        row = [source.randint(0, 5) for k in range(2500)]
        turned = row[:70] + row[70:2300][::-1] + row[2300:]
        again = turned[:500] + turned[500:2100][::-1] + turned[2100:]
        back = again[::-1]
        collection = collection_after(begin(), make(row), turn(1, 70, 2300), turn(2, 500, 2100), turn(3, 0, 2500))
        for v, numbers in ((1, row), (2, turned), (3, again), (4, back)):
            for step in range(150):
                start = source.randint(0, 2500)
                end = source.randint(start, 2500)
                self.check(collection, v, numbers, start, end, source.randint(0, 6))
            for x in range(7):
                self.check(collection, v, numbers, 0, 2500, x)
                self.check(collection, v, numbers, 0, 1250, x)
                self.check(collection, v, numbers, 1250, 2500, x)

    def test_it_is_counted_anew_in_each_version(self):
        calls = [begin(), make([1] * 600), count(1, 0, 600, 1), set_at(1, 300, 2), count(2, 0, 600, 1),
                 count(2, 0, 600, 2), join(2, 2), count(3, 0, 1200, 1), count(3, 0, 1200, 2), count(1, 0, 600, 1),
                 remove(3, 0, 301), count(4, 0, 899, 1), count(4, 0, 899, 2), begin(), make([2] * 600),
                 count(1, 0, 600, 1)]
        self.assertEqual(answered(*calls), [0, 1, 600, 2, 599, 1, 3, 1198, 2, 600, 4, 898, 1, 0, 1, 0])

    def test_full_rows(self):
        collection = collection_after(begin(), *doubled([7, 8, 7, 9], 14), set_at(15, 40000, 9),
                                      turn(16, 1, MOST_NUMBERS))
        for v in (15, 16, 17):
            row = more_lists(collection, out(v, 0, MOST_NUMBERS))[0][1:]
            for x in (6, 7, 8, 9):
                for start, end in ((0, MOST_NUMBERS), (1, MOST_NUMBERS - 1), (25000, 41000), (40000, 40001)):
                    self.check(collection, v, row, start, end, x)


class DifferTest(LongTest):
    def check(self, row, other, place):
        told = answered(begin(), make(row), make(other), differ(1, 2), differ(2, 1), differ(1, 1), differ(2, 2))
        self.assertEqual(told[3:], [place, place, -1, -1])

    def test_short_rows(self):
        self.check([1, 2, 3], [1, 2, 4], 2)
        self.check([1, 2, 3], [0, 2, 3], 0)
        self.check([1, 2, 3], [1, 5, 6], 1)
        self.check([1, 2, 3], [1, 2, 3], -1)

    def test_one_is_the_beginning_of_the_other(self):
        self.check([1, 2, 3], [1, 2], 2)
        self.check(LONG, LONG[:1499], 1499)
        self.check(LONG, LONG[:700], 700)
        self.check(LONG + LONG, LONG, 1500)

    def test_the_empty_row(self):
        self.check([], [1, 2], 0)
        self.check([], LONG, 0)
        self.check([], [], -1)
        told = answered(begin(), make([]), make([1]), remove(2, 0, 1), differ(0, 1), differ(3, 0), differ(0, 2),
                        differ(0, 0))
        self.assertEqual(told[4:], [-1, -1, 0, -1])

    def test_another_length_and_another_number_before_its_end(self):
        self.check([1, 2, 3, 4], [1, 9], 1)
        self.check(LONG[:400] + [4294967295] + LONG, LONG[:600], 400)

    def test_a_difference_at_each_place(self):
        collection = collection_after(begin(), make(LONG), make([2000] + LONG), remove(2, 0, 1))
        for place in range(0, 1500):
            made = more_answers(collection, set_at(1, place, 2001))[0]
            self.assertEqual(more_answers(collection, differ(1, made), differ(made, 3)), [place, place])

    def test_the_same_made_in_other_ways(self):
        collection = collection_after(begin(), make(LONG), make(LONG[::-1]), turn(2, 0, 1500))
        grown = more_answers(collection, make([]))[0]
        for number in LONG[:400]:
            grown = more_answers(collection, insert(grown, 0, number))[0]
        grown = more_answers(collection, turn(grown, 0, 400))[0]
        rest = more_answers(collection, part(1, 400, 1500))[0]
        joined = more_answers(collection, join(grown, rest))[0]
        within = more_answers(collection, remove(1, 399, 1401))[0]
        middle = more_answers(collection, part(joined, 399, 1401))[0]
        filled = more_answers(collection, put(within, 399, middle))[0]
        same = [1, 3, joined, filled, more_answers(collection, turn(turn_twice(collection, 1), 7, 7))[0]]
        for v in same:
            for w in same:
                self.assertEqual(more_answers(collection, differ(v, w)), [-1])
        changed = more_answers(collection, set_at(filled, 1450, 5000))[0]
        self.assertEqual([more_answers(collection, differ(v, changed)) for v in same], [[1450]] * 5)

    def test_rows_of_one_number_differ_in_their_length_alone(self):
        calls = [begin()] + doubled([7], 12) + [remove(13, 1000, 1003), insert(14, 77, 7), turn(15, 5, 4000),
                                                put(16, 2000, 2), set_at(17, 4090, 7)]
        told = answered(*calls, differ(13, 17), differ(13, 18), differ(14, 15), differ(15, 14), differ(16, 13),
                        differ(17, 18), differ(1, 18), differ(0, 18), differ(15, 16))
        self.assertEqual(told[-9:], [-1, -1, 4093, 4093, 4094, -1, 1, 0, -1])

    def test_it_is_told_anew_after_begin(self):
        told = answered(begin(), make([1, 2]), make([1, 2]), differ(1, 2), begin(), make([1, 2]), make([1, 3]),
                        differ(1, 2), differ(2, 1), begin(), make([1]), differ(1, 2), make([]), differ(1, 2))
        self.assertEqual(told, [0, 1, 2, -1, 0, 1, 2, 1, 1, 0, 1, -2, 2, 0])

    def test_full_rows(self):
        calls = [begin()] + doubled([1, 2, 3, 4], 14) + doubled_from(16, [4, 3, 2, 1], 14)
        last = MOST_NUMBERS - 1
        told = answered(*calls, turn(30, 0, MOST_NUMBERS), set_at(31, last, 9), remove(15, last, last + 1),
                        differ(15, 30), differ(15, 31), differ(15, 32), differ(31, 32), differ(15, 33), differ(33, 32),
                        differ(33, 14))
        self.assertEqual(told[-7:], [0, -1, last, last, last, last, MOST_NUMBERS // 2])


def doubled_from(first, numbers, times):
    return [make(numbers)] + [join(v, v) for v in range(first, first + times)]


def turn_twice(collection, v):
    once = more_answers(collection, turn(v, 100, 1300))[0]
    return more_answers(collection, turn(once, 100, 1300))[0]


class CountingList(list):
    looks = 0

    def __getitem__(self, place):
        self.looks += 1
        return list.__getitem__(self, place)


class OriginTest(LongTest):
    def test_a_version_and_itself(self):
        told = answered(begin(), make([1]), insert(1, 0, 2), origin(0, 0), origin(1, 1), origin(2, 2))
        self.assertEqual(told[3:], [0, 1, 2])

    def test_of_each_call_that_makes_a_version_of_another(self):
        for call in (insert(1, 0, 5), set_at(1, 0, 5), remove(1, 0, 1), part(1, 0, 1), turn(1, 0, 2), join(1, 2),
                     put(1, 1, 2)):
            told = answered(begin(), make([1, 2]), make([3]), call, origin(3, 1), origin(1, 3), origin(3, 2),
                            origin(2, 3), origin(3, 0))
            self.assertEqual(told[4:], [1, 1, -1, -1, -1])

    def test_a_make_is_of_none(self):
        told = answered(begin(), make([]), make([]), origin(0, 1), origin(1, 0), origin(1, 2))
        self.assertEqual(told[3:], [-1, -1, -1])

    def test_a_version_made_of_version_0_comes_from_it(self):
        told = answered(begin(), part(0, 0, 0), turn(0, 0, 0), insert(1, 0, 1), origin(1, 2), origin(3, 2),
                        origin(3, 0), origin(0, 1))
        self.assertEqual(told[4:], [0, 0, 0, 0])

    def test_the_one_made_last_of_all_that_both_come_from(self):
        calls = (begin(), make([1, 2, 3]), insert(1, 0, 4), insert(2, 0, 5), turn(3, 0, 5), part(3, 0, 2),
                 remove(4, 0, 1), join(5, 6), put(2, 1, 7))
        told = answered(*calls, origin(6, 7), origin(7, 6), origin(8, 7), origin(4, 6), origin(5, 8), origin(1, 8),
                        origin(7, 5))
        self.assertEqual(told[9:], [3, 3, 2, 4, 2, 1, 5])

    def test_version_w_is_not_what_the_new_one_was_made_of(self):
        told = answered(begin(), make([1]), make([2]), join(1, 2), put(2, 0, 1), join(3, 4), origin(3, 2),
                        origin(4, 1), origin(3, 4), origin(5, 4), origin(5, 1), origin(5, 2))
        self.assertEqual(told[6:], [-1, -1, -1, -1, 1, -1])

    def test_a_refusal_makes_no_version_to_come_from(self):
        told = answered(begin(), make([1]), set_at(1, 4, 4), set_at(1, 0, 4), origin(2, 1), origin(3, 1))
        self.assertEqual(told, [0, 1, -2, 2, 1, -2])

    def test_begin_again_forgets_what_was_made_of_what(self):
        told = answered(begin(), make([1]), join(1, 1), origin(2, 1), begin(), make([1]), make([2]), origin(2, 1))
        self.assertEqual(told, [0, 1, 2, 1, 0, 1, 2, -1])

    def test_two_long_chains_that_part_late(self):
        calls = [begin(), make([1])] + [turn(v, 0, 1) for v in range(1, 2000)]
        calls = calls + [turn(2000, 0, 1)] + [turn(v, 0, 1) for v in range(2001, 4000)]
        calls = calls + [turn(2000, 0, 1)] + [turn(v, 0, 1) for v in range(4001, 4500)]
        told = answered(*calls, origin(4000, 4500), origin(4500, 4000), origin(4500, 1), origin(4001, 2001),
                        origin(4000, 3999), origin(4500, 1999), origin(4000, 0))
        self.assertEqual(told[-7:], [2000, 2000, 1, 2000, 3999, 1999, -1])

    def test_two_long_chains_made_by_turns(self):
        calls = [begin(), make([1]), part(1, 0, 1), part(1, 0, 1)]
        calls = calls + [turn(v, 0, 1) for v in range(2, MOST_VERSIONS - 2)]
        collection = collection_after(*calls)
        top = MOST_VERSIONS - 1
        told = more_answers(collection, origin(top, top - 1), origin(top, 2), origin(top, 3), origin(top - 1, 2),
                            origin(top, 4000), origin(top, 4001), origin(top - 1, 4000), turn(top, 0, 1))
        self.assertEqual(told, [1, 1, 3, 2, 1, 4001, 4000, -1])

    def check_pairs(self, made_of, pairs):
        plain = PlainLists()
        plain.versions = [[]] * len(made_of)
        plain.sources = made_of
        origins = Origins()
        for source in made_of:
            origins.add(source)
        for v, w in pairs:
            self.assertEqual([origins.last_common(v, w)], plain.origin(v, w), (v, w))

    def test_few_steps_through_long_chains(self):
        made_of = [-1] + [max(0, v - 2) for v in range(1, MOST_VERSIONS)]
        origins = Origins()
        for source in made_of:
            origins.add(source)
        origins.depths = CountingList(origins.depths)
        top = MOST_VERSIONS - 1
        for v, w, last in ((top, top - 1, 0), (top, 1, 1), (top, 2001, 2001), (top - 1, 2001, 0), (top, top, top)):
            origins.depths.looks = 0
            self.assertEqual(origins.last_common(v, w), last)
            self.assertLess(origins.depths.looks, 120)

    def test_every_pair_of_small_woods(self):
        for seed in range(30):
            source = random.Random(seed)
            nearest = source.choice([1, 3, 60])
            made_of = [-1] + [-1 if source.random() < 0.05 else v - source.randint(1, min(nearest, v))
                              for v in range(1, 60)]
            self.check_pairs(made_of, [(v, w) for v in range(60) for w in range(60)])

    def test_many_pairs_of_a_large_wood(self):
        for nearest in (1, 2, 5, 100):
            source = random.Random(nearest)
            made_of = [-1] + [v - source.randint(1, min(nearest, v)) for v in range(1, 3000)]
            pairs = [(source.randint(0, 2999), source.randint(0, 2999)) for k in range(300)]
            self.check_pairs(made_of, pairs)


if __name__ == "__main__":
    unittest.main()
