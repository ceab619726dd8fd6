"""Points 1 and 2: what begin starts, and what each call makes of a version."""

import unittest

from keptrows.versions import answers
from tests.helper import (
    LongTest, answered, begin, collection_after, contents, insert, join, line, make, more_answers, part, put, remove,
    set_at, sources, turn,
)

LONG = list(range(1000, 1900))


class BeginTest(unittest.TestCase):
    def test_there_is_one_empty_version_made_of_none(self):
        collection = collection_after(begin())
        self.assertEqual(contents(collection), [[]])
        self.assertEqual(sources(collection), [-1])
        self.assertEqual(collection.told, 0)

    def test_answers_0(self):
        self.assertEqual(answers([0]), [1, 0])

    def test_version_0_is_a_version_to_make_others_of(self):
        self.assertEqual(answered(begin(), insert(0, 0, 7), part(0, 0, 0)), [0, 1, 2])

    def test_begin_again_makes_all_new(self):
        collection = collection_after(begin(), make([1, 2]), insert(1, 0, 3), begin())
        self.assertEqual(contents(collection), [[]])
        self.assertEqual(sources(collection), [-1])
        self.assertEqual(collection.told, 0)

    def test_versions_from_before_begin_are_gone_and_numbers_start_anew(self):
        calls = (begin(), make([1, 2]), make([3]), begin(), part(1, 0, 0), make([4]), part(1, 0, 1), begin(), begin())
        self.assertEqual(answered(*calls), [0, 1, 2, 0, -2, 1, 2, 0, 0])


class AnswerFormTest(unittest.TestCase):
    def test_each_answer_has_its_count_ahead(self):
        calls = line(begin(), make([5, 6, 7]), insert(1, 0, 9), set_at(9, 0, 9), turn(1, 0, 3))
        self.assertEqual(answers(calls), [1, 0, 1, 1, 1, 2, 1, -2, 1, 3])

    def test_versions_are_numbered_as_they_were_made_whatever_they_are_made_of(self):
        calls = (begin(), make([1]), make([1]), insert(0, 0, 1), set_at(1, 0, 1), remove(1, 0, 1), part(1, 0, 1),
                 turn(0, 0, 0), join(0, 0), put(1, 1, 0), make([]))
        self.assertEqual(answered(*calls), list(range(11)))

    def test_numbers_of_a_make_are_not_taken_for_calls(self):
        self.assertEqual(answered(begin(), make([0, 1, 0, 4]), make([]), make([0]), begin()), [0, 1, 2, 3, 0])


class MakeTest(LongTest):
    def check(self, numbers):
        collection = collection_after(begin(), make(numbers))
        self.check_same(contents(collection), [[], numbers])
        self.assertEqual(sources(collection), [-1, -1])
        self.assertEqual(collection.told, len(numbers))

    def test_its_numbers_are_those_handed_over(self):
        for length in (0, 1, 2, 255, 256, 257, 511, 512, 513, 1000, 29990, 65536):
            self.check([(17 * k + 3) % 4294967296 for k in range(length)])

    def test_the_edges_of_the_numbers(self):
        self.check([0, 4294967295, 0])


class OfVersionTest(LongTest):
    """The calls that make a version of another: the new one is as told, the old one as before."""

    def check(self, old, call, new, told=0):
        collection = collection_after(begin(), make(old))
        self.assertEqual(more_answers(collection, call), [2])
        self.check_same(contents(collection), [[], old, new])
        self.assertEqual(sources(collection), [-1, -1, 1])
        self.assertEqual(collection.told, len(old) + told)

    def test_insert(self):
        self.check([1, 2, 3], insert(1, 1, 9), [1, 9, 2, 3], 1)

    def test_insert_at_each_place(self):
        for at in range(len(LONG) + 1):
            self.check(LONG, insert(1, at, 9), LONG[:at] + [9] + LONG[at:], 1)

    def test_insert_into_the_empty_row(self):
        self.check([], insert(1, 0, 4294967295), [4294967295], 1)

    def test_set(self):
        self.check([1, 2, 3], set_at(1, 1, 9), [1, 9, 3], 1)

    def test_set_at_each_place(self):
        for at in range(len(LONG)):
            self.check(LONG, set_at(1, at, 0), LONG[:at] + [0] + LONG[at + 1:], 1)

    def test_set_of_the_number_that_is_there_makes_a_version_too(self):
        self.check([1, 2, 3], set_at(1, 2, 3), [1, 2, 3], 1)

    def test_remove(self):
        self.check([1, 2, 3, 4], remove(1, 1, 3), [1, 4])

    def test_part(self):
        self.check([1, 2, 3, 4], part(1, 1, 3), [2, 3])

    def test_turn(self):
        self.check([1, 2, 3, 4, 5], turn(1, 1, 4), [1, 4, 3, 2, 5])

    def check_stretch(self, old, start, end):
        before, middle, behind = old[:start], old[start:end], old[end:]
        self.check(old, remove(1, start, end), before + behind)
        self.check(old, part(1, start, end), middle)
        self.check(old, turn(1, start, end), before + middle[::-1] + behind)

    def test_stretches_at_the_edges(self):
        for old in ([], [5], [1, 2, 3], LONG):
            length = len(old)
            for start, end in ((0, 0), (length, length), (0, length), (length // 2, length // 2),
                               (0, length // 2), (length // 2, length)):
                self.check_stretch(old, start, end)

    def test_all_stretches_of_a_short_row(self):
        for end in range(6):
            for start in range(end + 1):
                self.check_stretch([1, 2, 3, 4, 5], start, end)

    def test_many_stretches_of_a_longer_row(self):
        for start in range(0, len(LONG), 53):
            for end in range(start, len(LONG) + 1, 47):
                self.check_stretch(LONG, start, end)

    def check_of_two(self, old, other, call, new):
        """Version 1 is old, version 2 the other; the new one is made of version 1 alone, and tells no number."""
        collection = collection_after(begin(), make(old), make(other))
        self.assertEqual(more_answers(collection, call), [3])
        self.check_same(contents(collection), [[], old, other, new])
        self.assertEqual(sources(collection), [-1, -1, -1, 1])
        self.assertEqual(collection.told, len(old) + len(other))

    def test_join(self):
        self.check_of_two([1, 2, 3], [4, 5], join(1, 2), [1, 2, 3, 4, 5])

    def test_put(self):
        self.check_of_two([1, 2, 3], [4, 5], put(1, 1, 2), [1, 4, 5, 2, 3])

    def test_join_and_put_of_rows_of_many_lengths(self):
        for old in ([], [5], LONG, LONG * 9):
            for other in ([], [8], LONG[::-1], LONG * 3, LONG * 20):
                self.check_of_two(old, other, join(1, 2), old + other)
                for at in sorted({0, len(old) // 3, len(old) // 2, len(old)}):
                    self.check_of_two(old, other, put(1, at, 2), old[:at] + other + old[at:])

    def test_put_at_each_place(self):
        for at in range(len(LONG) + 1):
            self.check_of_two(LONG, [7, 8, 9], put(1, at, 2), LONG[:at] + [7, 8, 9] + LONG[at:])

    def test_a_version_joined_to_itself(self):
        for old in ([], [5], [1, 2, 3], LONG):
            self.check(old, join(1, 1), old + old)

    def test_a_version_put_into_itself(self):
        for old in ([], [5], [1, 2, 3], LONG):
            for at in range(0, len(old) + 1, 1 + len(old) // 10):
                self.check(old, put(1, at, 1), old[:at] + old + old[at:])
            self.check(old, put(1, len(old), 1), old + old)

    def test_join_and_put_with_the_empty_version_0(self):
        collection = collection_after(begin(), make([1, 2]), join(0, 1), join(1, 0), put(0, 0, 1), put(1, 1, 0),
                                      join(0, 0), put(0, 0, 0))
        self.assertEqual(contents(collection), [[], [1, 2], [1, 2], [1, 2], [1, 2], [1, 2], [], []])
        self.assertEqual(sources(collection), [-1, -1, 0, 1, 0, 1, 0, 0])

    def test_join_and_put_of_what_was_turned(self):
        collection = collection_after(begin(), make(LONG), turn(1, 50, 850), join(2, 1), turn(3, 0, 1800),
                                      put(4, 899, 2), put(2, 450, 4), turn(6, 10, 2690), join(7, 5))
        turned = LONG[:50] + LONG[50:850][::-1] + LONG[850:]
        back = (turned + LONG)[::-1]
        mixed = turned[:450] + back + turned[450:]
        again = mixed[:10] + mixed[10:2690][::-1] + mixed[2690:]
        within = back[:899] + turned + back[899:]
        self.check_same(contents(collection),
                        [[], LONG, turned, turned + LONG, back, within, mixed, again, again + within])
        self.assertEqual(sources(collection), [-1, -1, 1, 2, 3, 4, 2, 6, 7])

    def test_the_version_made_of_need_not_be_the_last(self):
        collection = collection_after(begin(), make([1, 2, 3]), make([4]), insert(1, 0, 9), turn(2, 0, 1),
                                      part(0, 0, 0), remove(3, 1, 2), set_at(3, 0, 8))
        self.assertEqual(contents(collection),
                         [[], [1, 2, 3], [4], [9, 1, 2, 3], [4], [], [9, 2, 3], [8, 1, 2, 3]])
        self.assertEqual(sources(collection), [-1, -1, -1, 1, 2, 0, 3, 3])

    def test_turns_of_what_was_turned(self):
        collection = collection_after(begin(), make(LONG), turn(1, 0, 900), turn(2, 100, 700), insert(3, 450, 7),
                                      turn(4, 0, 901), part(5, 90, 510), set_at(5, 0, 8), remove(5, 1, 900))
        back = LONG[::-1]
        mixed = back[:100] + back[100:700][::-1] + back[700:]
        more = mixed[:450] + [7] + mixed[450:]
        again = more[::-1]
        self.check_same(contents(collection),
                        [[], LONG, back, mixed, more, again, again[90:510], [8] + again[1:], [again[0], again[900]]])


if __name__ == "__main__":
    unittest.main()
