"""Points 1 and 2: what begin starts, and what each call makes of a version."""

import unittest

from keptrows.versions import answers
from tests.helper import (
    LongTest, answered, begin, collection_after, contents, insert, line, make, more_answers, part, remove, set_at, turn,
)

LONG = list(range(1000, 1300))


class BeginTest(unittest.TestCase):
    def test_there_is_one_empty_version_made_of_none(self):
        collection = collection_after(begin())
        self.assertEqual(contents(collection), [[]])
        self.assertEqual(collection.sources, [-1])
        self.assertEqual(collection.told, 0)

    def test_answers_0(self):
        self.assertEqual(answers([0]), [1, 0])

    def test_version_0_is_a_version_to_make_others_of(self):
        self.assertEqual(answered(begin(), insert(0, 0, 7), part(0, 0, 0)), [0, 1, 2])

    def test_begin_again_makes_all_new(self):
        collection = collection_after(begin(), make([1, 2]), insert(1, 0, 3), begin())
        self.assertEqual(contents(collection), [[]])
        self.assertEqual(collection.sources, [-1])
        self.assertEqual(collection.told, 0)

    def test_versions_from_before_begin_are_gone_and_numbers_start_anew(self):
        calls = (begin(), make([1, 2]), make([3]), begin(), part(1, 0, 0), make([4]), part(1, 0, 1), begin(), begin())
        self.assertEqual(answered(*calls), [0, 1, 2, 0, -2, 1, 2, 0, 0])


class AnswerFormTest(unittest.TestCase):
    def test_each_answer_has_its_count_ahead(self):
        calls = line(begin(), make([5, 6, 7]), insert(1, 0, 9), set_at(9, 0, 9), turn(1, 0, 3))
        self.assertEqual(answers(calls), [1, 0, 1, 1, 1, 2, 1, -2, 1, 3])

    def test_versions_are_numbered_as_they_were_made_whatever_they_are_made_of(self):
        calls = (begin(), make([1]), make([1]), insert(0, 0, 1), set_at(1, 0, 1), remove(1, 0, 1), part(1, 0, 1),
                 turn(0, 0, 0))
        self.assertEqual(answered(*calls), list(range(8)))

    def test_numbers_of_a_make_are_not_taken_for_calls(self):
        self.assertEqual(answered(begin(), make([0, 1, 0, 4]), make([]), make([0]), begin()), [0, 1, 2, 3, 0])


class MakeTest(LongTest):
    def check(self, numbers):
        collection = collection_after(begin(), make(numbers))
        self.check_same(contents(collection), [[], numbers])
        self.assertEqual(collection.sources, [-1, -1])
        self.assertEqual(collection.told, len(numbers))

    def test_its_numbers_are_those_handed_over(self):
        for length in (0, 1, 2, 63, 64, 65, 127, 128, 129, 1000, 29990, 65536):
            self.check([(17 * k + 3) % 4294967296 for k in range(length)])

    def test_the_edges_of_the_numbers(self):
        self.check([0, 4294967295, 0])


class OfVersionTest(LongTest):
    """The calls that make a version of another: the new one is as told, the old one as before."""

    def check(self, old, call, new, told=0):
        collection = collection_after(begin(), make(old))
        self.assertEqual(more_answers(collection, call), [2])
        self.check_same(contents(collection), [[], old, new])
        self.assertEqual(collection.sources, [-1, -1, 1])
        self.assertEqual(collection.told, len(old) + told)

    def test_insert(self):
        self.check([1, 2, 3], insert(1, 1, 9), [1, 9, 2, 3], 1)

    def test_insert_at_each_place(self):
        for at in range(len(LONG) + 1):
            self.check(LONG, insert(1, at, 9), LONG[:at] + [9] + LONG[at:], 1)

    def test_insert_into_the_empty_row(self):
        self.check([], insert(1, 0, 4294967295), [4294967295], 1)

    def test_set(self):
        self.check([1, 2, 3], set_at(1, 1, 9), [1, 9, 3], 1)

    def test_set_at_each_place(self):
        for at in range(len(LONG)):
            self.check(LONG, set_at(1, at, 0), LONG[:at] + [0] + LONG[at + 1:], 1)

    def test_set_of_the_number_that_is_there_makes_a_version_too(self):
        self.check([1, 2, 3], set_at(1, 2, 3), [1, 2, 3], 1)

    def test_remove(self):
        self.check([1, 2, 3, 4], remove(1, 1, 3), [1, 4])

    def test_part(self):
        self.check([1, 2, 3, 4], part(1, 1, 3), [2, 3])

    def test_turn(self):
        self.check([1, 2, 3, 4, 5], turn(1, 1, 4), [1, 4, 3, 2, 5])

    def check_stretch(self, old, start, end):
        before, middle, behind = old[:start], old[start:end], old[end:]
        self.check(old, remove(1, start, end), before + behind)
        self.check(old, part(1, start, end), middle)
        self.check(old, turn(1, start, end), before + middle[::-1] + behind)

    def test_stretches_at_the_edges(self):
        for old in ([], [5], [1, 2, 3], LONG):
            length = len(old)
            for start, end in ((0, 0), (length, length), (0, length), (length // 2, length // 2),
                               (0, length // 2), (length // 2, length)):
                self.check_stretch(old, start, end)

    def test_all_stretches_of_a_short_row(self):
        for end in range(6):
            for start in range(end + 1):
                self.check_stretch([1, 2, 3, 4, 5], start, end)

    def test_many_stretches_of_a_longer_row(self):
        for start in range(0, len(LONG), 23):
            for end in range(start, len(LONG) + 1, 19):
                self.check_stretch(LONG, start, end)

    def test_the_version_made_of_need_not_be_the_last(self):
        collection = collection_after(begin(), make([1, 2, 3]), make([4]), insert(1, 0, 9), turn(2, 0, 1),
                                      part(0, 0, 0), remove(3, 1, 2), set_at(3, 0, 8))
        self.assertEqual(contents(collection),
                         [[], [1, 2, 3], [4], [9, 1, 2, 3], [4], [], [9, 2, 3], [8, 1, 2, 3]])
        self.assertEqual(collection.sources, [-1, -1, -1, 1, 2, 0, 3, 3])

    def test_turns_of_what_was_turned(self):
        collection = collection_after(begin(), make(LONG), turn(1, 0, 300), turn(2, 100, 200), insert(3, 150, 7),
                                      turn(4, 0, 301), part(5, 90, 210), set_at(5, 0, 8), remove(5, 1, 300))
        back = LONG[::-1]
        mixed = back[:100] + back[100:200][::-1] + back[200:]
        more = mixed[:150] + [7] + mixed[150:]
        again = more[::-1]
        self.check_same(contents(collection),
                        [[], LONG, back, mixed, more, again, again[90:210], [8] + again[1:], [again[0], again[300]]])


if __name__ == "__main__":
    unittest.main()
