"""Point 6: next."""

import unittest

from tests.calls import ALL, HUGE, REDO, UNDO, ask, begins, change, drop, last, mark, next_of, set_to

TEN = begins(list(range(10)))


class NextAnswers(unittest.TestCase):
    def test_the_one_that_begins_first(self):
        calls = (TEN, mark(6, 7, value=5), mark(2, 9, value=5), mark(4, 8, value=5))
        self.assertEqual(last(*calls, next_of(0, 5)), [1, 2, 9])
        self.assertEqual(last(*calls, next_of(1, 5)), [1, 2, 9])
        self.assertEqual(last(*calls, next_of(2, 5)), [2, 4, 8])
        self.assertEqual(last(*calls, next_of(3, 5)), [2, 4, 8])
        self.assertEqual(last(*calls, next_of(5, 5)), [0, 6, 7])
        self.assertEqual(last(*calls, next_of(6, 5)), [-6])

    def test_with_that_value_alone(self):
        calls = (TEN, mark(2, 4, value=6, rank=9), mark(3, 4, value=5), mark(1, 4, value=4))
        self.assertEqual(last(*calls, next_of(0, 5)), [1, 3, 4])
        self.assertEqual(last(*calls, next_of(0, 6)), [0, 2, 4])

    def test_lowest_and_highest_value(self):
        calls = (TEN, mark(2, 4, value=0), mark(3, 4, value=99))
        self.assertEqual(last(*calls, next_of(0, 0)), [0, 2, 4])
        self.assertEqual(last(*calls, next_of(0, 99)), [1, 3, 4])

    def test_one_that_begins_just_at_the_place(self):
        calls = (TEN, mark(3, 5, value=5))
        self.assertEqual(last(*calls, next_of(2, 5)), [0, 3, 5])
        self.assertEqual(last(*calls, next_of(3, 5)), [-6])
        self.assertEqual(last(TEN, mark(0, 5, value=5), next_of(0, 5)), [-6])

    def test_one_that_only_ends_behind_the_place(self):
        self.assertEqual(last(TEN, mark(3, 9, value=5), next_of(5, 5)), [-6])

    def test_an_empty_one_that_has_not_vanished(self):
        self.assertEqual(last(TEN, mark(4, 4, value=5), next_of(3, 5)), [0, 4, 4])
        self.assertEqual(last(TEN, mark(10, 10, value=5), next_of(9, 5)), [0, 10, 10])
        self.assertEqual(last(TEN, mark(4, 6, value=5), change((3, 4, [])), next_of(0, 5)), [0, 3, 3])


class SeveralAtOnePlace(unittest.TestCase):
    def test_by_rank(self):
        calls = (TEN, mark(3, 5, rank=2, value=5), mark(3, 9, rank=7, value=5), mark(3, 4, rank=4, value=5))
        self.assertEqual(last(*calls, next_of(0, 5)), [1, 3, 9])

    def test_of_one_rank_the_later_made(self):
        calls = (TEN, mark(3, 9, value=5), mark(3, 5, value=5))
        self.assertEqual(last(*calls, next_of(0, 5)), [1, 3, 5])

    def test_of_one_rank_the_later_set(self):
        calls = (TEN, mark(3, 9, value=5), mark(3, 5, value=5))
        self.assertEqual(last(*calls, set_to(0, 3, 8), next_of(0, 5)), [0, 3, 8])
        self.assertEqual(last(*calls, set_to(0, 3, 9), next_of(0, 5)), [0, 3, 9])
        self.assertEqual(last(*calls, set_to(0, 3, 11), next_of(0, 5)), [1, 3, 5])

    def test_an_empty_one_among_them(self):
        calls = (TEN, mark(3, 5, value=5), mark(3, 3, value=5))
        self.assertEqual(last(*calls, next_of(0, 5)), [1, 3, 3])
        self.assertEqual(last(*calls, set_to(0, 3, 5), next_of(0, 5)), [0, 3, 5])

    def test_a_higher_one_further_behind_does_not_count(self):
        calls = (TEN, mark(3, 5, value=5), mark(4, 5, rank=9, value=5))
        self.assertEqual(last(*calls, next_of(0, 5)), [0, 3, 5])

    def test_a_higher_one_of_another_value_does_not_count(self):
        calls = (TEN, mark(3, 5, value=5), mark(3, 5, rank=9, value=6))
        self.assertEqual(last(*calls, next_of(0, 5)), [0, 3, 5])

    def test_moved_to_one_place(self):
        calls = (TEN, mark(3, 6, rank=1, value=5), mark(4, 7, value=5), change((2, 3, [])))
        self.assertEqual(last(*calls, next_of(0, 5)), [0, 2, 3])


class NoneThere(unittest.TestCase):
    def test_no_stretches(self):
        self.assertEqual(ask(next_of(0, 0)), [[-6]])
        self.assertEqual(last(TEN, next_of(0, 0)), [-6])

    def test_none_with_that_value(self):
        self.assertEqual(last(TEN, mark(3, 5, value=5), next_of(0, 6)), [-6])
        self.assertEqual(last(TEN, mark(3, 5, value=5), next_of(0, 4)), [-6])

    def test_none_behind_the_place(self):
        self.assertEqual(last(TEN, mark(3, 5, value=5), next_of(4, 5)), [-6])

    def test_a_value_above_99(self):
        for value in (100, 101, HUGE):
            self.assertEqual(last(TEN, mark(3, 5, value=99), mark(3, 5, value=0), next_of(0, value)), [-6])

    def test_a_place_beyond_the_text(self):
        for place in (10, 11, HUGE):
            self.assertEqual(last(TEN, mark(10, 10, value=5), next_of(place, 5)), [-6])

    def test_dropped(self):
        calls = (TEN, mark(3, 5, value=5), mark(4, 5, value=5), drop(0))
        self.assertEqual(last(*calls, next_of(0, 5)), [1, 4, 5])
        self.assertEqual(last(*calls, drop(1), next_of(0, 5)), [-6])

    def test_vanished(self):
        calls = (TEN, mark(3, 5, 0, 1, 1, 0, 5), mark(6, 7, value=5), change((3, 2, [])))
        self.assertEqual(last(*calls, next_of(0, 5)), [1, 4, 5])
        self.assertEqual(last(*calls, change((3, 0, [70])), next_of(0, 5)), [1, 5, 6])
        self.assertEqual(last(*calls, drop(1), next_of(0, 5)), [-6])

    def test_came_back(self):
        calls = (TEN, mark(3, 5, 0, 1, 1, 0, 5), change((3, 2, [])))
        self.assertEqual(last(*calls, UNDO, next_of(0, 5)), [0, 3, 5])
        self.assertEqual(last(*calls, UNDO, REDO, next_of(0, 5)), [-6])

    def test_changes_nothing(self):
        calls = (TEN, mark(3, 5, value=5), next_of(3, 5), next_of(0, 100))
        self.assertEqual(ask(*calls, next_of(2, 5), ALL)[-2:], [[0, 3, 5], [1, 0, 3, 5]])
