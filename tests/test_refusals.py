"""Points 3 and 4: what is refused, in which order, and that nothing changes with it."""

import unittest

from tests.helper import (
    MOST_NUMBERS, MOST_TOLD, MOST_VERSIONS,
    LongTest, all_answered, answered, begin, collection_after, count, differ, insert, join, length, make, more_answers,
    origin, out, part, put, remove, set_at, state, turn,
)

LARGEST = 2147483647
FULL = [k % 1000 for k in range(MOST_NUMBERS)]


class RefusalTest(LongTest):
    def check_refused(self, collection, refusal, *calls):
        before = state(collection)
        for call in calls:
            self.assertEqual(more_answers(collection, call), [refusal], call[:4])
        self.check_same(state(collection), before)


class NotAsToldTest(RefusalTest):
    def test_a_version_that_is_not_there(self):
        collection = collection_after(begin(), make([1, 2, 3]))
        for v in (2, 3, MOST_VERSIONS, LARGEST):
            self.check_refused(collection, -2, insert(v, 0, 1), set_at(v, 0, 1), remove(v, 0, 0), part(v, 0, 0),
                               turn(v, 0, 0), join(v, 0), put(v, 0, 0), length(v), out(v, 0, 0), count(v, 0, 0, 1),
                               differ(v, 0), origin(v, 0))

    def test_a_second_version_that_is_not_there(self):
        collection = collection_after(begin(), make([1, 2, 3]))
        for w in (2, 3, MOST_VERSIONS, LARGEST):
            self.check_refused(collection, -2, join(1, w), put(1, 0, w), differ(1, w), origin(1, w), join(w, w),
                               put(w, 0, w), differ(w, w), origin(w, w))

    def test_a_version_is_there_from_the_call_that_made_it(self):
        calls = (begin(), join(0, 1), length(1), differ(0, 1), origin(1, 0), join(0, 0), length(1), differ(0, 1),
                 origin(1, 0), join(1, 2), put(1, 0, 2), join(1, 1))
        self.assertEqual(answered(*calls), [0, -2, -2, -2, -2, 1, 0, -1, 0, -2, -2, 2])

    def test_a_place_that_is_not_there(self):
        collection = collection_after(begin(), make([1, 2, 3]))
        self.check_refused(collection, -2, insert(1, 4, 9), insert(1, LARGEST, 9), insert(0, 1, 9),
                           set_at(1, 3, 9), set_at(1, 4, 9), set_at(1, LARGEST, 9), set_at(0, 0, 9),
                           put(1, 4, 1), put(1, LARGEST, 1), put(0, 1, 1), put(1, 4, 0))

    def test_a_stretch_that_is_not_as_told(self):
        collection = collection_after(begin(), make([1, 2, 3]))
        for start, end in ((2, 1), (3, 0), (3, 2), (0, 4), (3, 4), (4, 4), (4, 3), (0, LARGEST), (LARGEST, 0),
                           (LARGEST, LARGEST)):
            self.check_refused(collection, -2, remove(1, start, end), part(1, start, end), turn(1, start, end),
                               out(1, start, end), count(1, start, end, 2))

    def test_a_stretch_of_the_empty_row(self):
        collection = collection_after(begin())
        for start, end in ((0, 1), (1, 1), (1, 0)):
            self.check_refused(collection, -2, remove(0, start, end), part(0, start, end), turn(0, start, end),
                               out(0, start, end), count(0, start, end, 0))

    def test_a_refused_out_is_its_number_alone(self):
        told = all_answered(begin(), make([1, 2, 3]), out(1, 0, 4), out(2, 0, 0), out(1, 2, 1), out(1, 2, 3))
        self.assertEqual(told[2:], [[-2], [-2], [-2], [1, 3]])

    def test_the_place_of_a_put_is_one_of_version_v(self):
        calls = (begin(), make([1]), make([1, 2, 3]), put(1, 2, 2), put(1, 1, 2), put(2, 3, 1), put(2, 4, 1))
        self.assertEqual(answered(*calls), [0, 1, 2, -2, 3, 4, -2])

    def test_each_version_has_its_own_length(self):
        calls = (begin(), make([1, 2, 3]), remove(1, 0, 2), part(2, 0, 1), part(2, 0, 2), part(1, 0, 3),
                 insert(2, 1, 9), set_at(5, 1, 8), set_at(5, 2, 8), turn(5, 0, 3), turn(1, 0, 3))
        self.assertEqual(answered(*calls), [0, 1, 2, 3, -2, 4, 5, 6, -2, -2, 7])

    def test_more_numbers_than_a_make_may_hand_over(self):
        collection = collection_after(begin(), make([1]))
        self.check_refused(collection, -2, make(FULL + [1]), make([0] * 70000))
        self.assertEqual(more_answers(collection, make(FULL)), [2])

    def test_the_next_version_after_a_refusal_has_the_next_number(self):
        calls = (begin(), make([1]), insert(5, 0, 1), set_at(1, 1, 1), part(1, 1, 0), insert(1, 1, 2))
        self.assertEqual(answered(*calls), [0, 1, -2, -2, -2, 2])


class NoMoreVersionsTest(RefusalTest):
    def all_versions(self):
        """As many versions as there may be; version 1 has two numbers, version 2 is full."""
        empties = [make([])] * (MOST_VERSIONS - 3)
        return collection_after(begin(), make([1, 2]), make(FULL), *empties)

    def test_as_many_as_there_may_be(self):
        told = answered(begin(), *[make([])] * MOST_VERSIONS)
        self.check_same(told, list(range(MOST_VERSIONS)) + [-1])

    def test_each_call_is_refused_then(self):
        collection = self.all_versions()
        self.assertEqual(len(collection.rows), MOST_VERSIONS)
        self.check_refused(collection, -1, make([]), make([1]), insert(1, 0, 1), set_at(1, 0, 1), remove(1, 0, 1),
                           part(1, 0, 2), turn(1, 0, 0), turn(MOST_VERSIONS - 1, 0, 0), join(1, 1), join(0, 0),
                           put(1, 2, 1), put(1, 0, MOST_VERSIONS - 1))

    def test_all_versions_may_be_looked_at_then(self):
        collection = self.all_versions()
        last = MOST_VERSIONS - 1
        self.assertEqual(more_answers(collection, length(last), length(2), count(1, 0, 2, 1), differ(last, 1),
                                      differ(last, 0), origin(last, last), origin(last, 1), length(last + 1)),
                         [0, MOST_NUMBERS, 1, 0, -1, last, -1, -2])

    def test_not_as_told_goes_ahead(self):
        collection = self.all_versions()
        self.check_refused(collection, -2, insert(MOST_VERSIONS, 0, 1), set_at(1, 2, 1), insert(1, 3, 1),
                           remove(1, 2, 1), part(1, 0, 3), turn(1, 3, 3), make(FULL + [1]), join(1, MOST_VERSIONS),
                           join(MOST_VERSIONS, 1), put(1, 0, MOST_VERSIONS), put(1, 3, 1))

    def test_it_goes_ahead_of_too_many_numbers(self):
        collection = self.all_versions()
        self.check_refused(collection, -1, insert(2, 0, 1), make(FULL), join(2, 1), join(1, 2), join(2, 2),
                           put(2, 5, 1), put(1, 1, 2))

    def test_begin_makes_room_again(self):
        collection = self.all_versions()
        self.assertEqual(more_answers(collection, make([]), begin(), make([]), make([])), [-1, 0, 1, 2])


class TooManyNumbersTest(RefusalTest):
    def test_a_row_that_would_be_too_long(self):
        collection = collection_after(begin(), make(FULL))
        self.check_refused(collection, -3, insert(1, 0, 1), insert(1, 5, 1), insert(1, MOST_NUMBERS, 1), join(1, 1),
                           put(1, 7, 1))

    def test_two_rows_that_would_be_too_long_together(self):
        collection = collection_after(begin(), make(FULL[:40000]), make(FULL[:25536]), make(FULL[:25537]), make([1]))
        self.assertEqual(more_answers(collection, join(1, 2), put(1, 9, 2), join(2, 1)), [5, 6, 7])
        self.check_refused(collection, -3, join(1, 3), put(1, 9, 3), join(3, 1), put(3, 25537, 1), join(5, 4),
                           join(4, 5), put(6, 0, 4), put(4, 1, 6), join(5, 6), join(1, 1))

    def test_a_line_that_comes_to_full_rows(self):
        calls = [begin(), make([6])] + [join(v, v) for v in range(1, 17)] + [make([5])]
        told = answered(*calls, length(17), join(17, 17), join(17, 1), join(1, 17), put(17, 3, 18), put(18, 1, 17),
                        insert(17, 0, 4), join(17, 0), put(17, 9, 0), join(0, 17), remove(17, 0, 1), join(22, 18),
                        length(23), put(22, 100, 1), insert(22, 65535, 4), join(23, 18))
        self.assertEqual(told[19:], [MOST_NUMBERS, -3, -3, -3, -3, -3, -3, 19, 20, 21, 22, 23, MOST_NUMBERS, 24, 25,
                                     -3])

    def test_a_row_that_becomes_full(self):
        collection = collection_after(begin(), make(FULL[1:]))
        self.assertEqual(more_answers(collection, insert(1, 0, 1), insert(2, 0, 1), set_at(2, 0, 1)), [2, -3, 3])

    def test_a_full_row_may_be_changed_where_it_grows_no_longer(self):
        collection = collection_after(begin(), make(FULL))
        calls = (set_at(1, MOST_NUMBERS - 1, 5), turn(1, 0, MOST_NUMBERS), part(1, 0, MOST_NUMBERS),
                 remove(1, 7, 7), remove(1, 7, 8), insert(6, 9, 9))
        self.assertEqual(more_answers(collection, *calls), [2, 3, 4, 5, 6, 7])

    def test_not_as_told_goes_ahead(self):
        collection = collection_after(begin(), make(FULL), make(FULL))
        self.check_refused(collection, -2, insert(1, MOST_NUMBERS + 1, 1), insert(3, 0, 1),
                           set_at(1, MOST_NUMBERS, 1), make(FULL + [1]), join(1, 3), join(3, 1), put(1, 0, 3),
                           put(3, 0, 1), put(1, MOST_NUMBERS + 1, 2))

    def all_told(self):
        return collection_after(begin(), make(FULL), make(FULL[5:]), insert(2, 0, 1), insert(2, 0, 1), set_at(2, 0, 1),
                                set_at(2, 1, 1), insert(0, 0, 1))

    def test_more_numbers_told_than_may_be(self):
        collection = self.all_told()
        self.assertEqual((len(collection.rows), collection.told), (8, MOST_TOLD))
        self.check_refused(collection, -3, make([1]), insert(0, 0, 1), set_at(2, 0, 1), make(FULL))

    def test_calls_that_tell_no_number_go_on_then(self):
        collection = self.all_told()
        self.assertEqual(more_answers(collection, make([]), remove(1, 0, 2), part(1, 0, 2), turn(1, 0, 2), join(9, 10),
                                      put(9, 7, 10), join(10, 10)), list(range(8, 15)))
        self.assertEqual(collection.told, MOST_TOLD)

    def test_a_make_that_goes_just_to_the_bound(self):
        collection = collection_after(begin(), make(FULL), make(FULL[3:]))
        self.assertEqual(more_answers(collection, make([1, 2, 3, 4]), make([1, 2, 3]), make([1])), [-3, 3, -3])

    def test_what_was_refused_counts_as_not_told(self):
        collection = collection_after(begin(), make(FULL), make(FULL[1:]))
        refused = (insert(1, 0, 1), make([1, 2]), insert(9, 0, 1), set_at(0, 0, 1), make(FULL + [1]))
        self.assertEqual(more_answers(collection, *refused), [-3, -3, -2, -2, -2])
        self.assertEqual(more_answers(collection, set_at(1, 0, 1), set_at(1, 0, 1)), [3, -3])

    def test_begin_forgets_what_was_told(self):
        collection = self.all_told()
        self.assertEqual(more_answers(collection, make([1]), begin(), make(FULL), make(FULL), insert(0, 0, 1)),
                         [-3, 0, 1, 2, -3])


if __name__ == "__main__":
    unittest.main()
