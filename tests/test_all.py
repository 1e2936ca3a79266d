"""all: the stretches that haven't vanished, by their numbers."""

import unittest

from tests.calls import ALL, REDO, UNDO, ask, begins, change, drop, last, mark, set_to

TEN = begins(list(range(10)))
MARKED = (TEN, mark(7, 9), mark(4, 6, vanishes=1), mark(5, 5, rank=9), mark(0, 10, vanishes=1))


class All(unittest.TestCase):
    def test_no_stretches(self):
        self.assertEqual(ask(ALL), [[0]])
        self.assertEqual(last(TEN, ALL), [0])

    def test_some(self):
        self.assertEqual(last(*MARKED, ALL), [4, 0, 7, 9, 1, 4, 6, 2, 5, 5, 3, 0, 10])

    def test_forty(self):
        marks = [mark(number % 10, 10) for number in range(40)]
        rows = [number for k in range(40) for number in (k, k % 10, 10)]
        self.assertEqual(last(TEN, *marks, mark(0, 1), ALL), [40] + rows)

    def test_a_refused_mark(self):
        self.assertEqual(last(TEN, mark(0, 11), mark(3, 4), ALL), [1, 0, 3, 4])

    def test_set_ones_keep_their_row(self):
        self.assertEqual(last(*MARKED, set_to(0, 1, 2), ALL), [4, 0, 1, 2, 1, 4, 6, 2, 5, 5, 3, 0, 10])

    def test_dropped(self):
        self.assertEqual(last(*MARKED, drop(1), ALL), [3, 0, 7, 9, 2, 5, 5, 3, 0, 10])
        self.assertEqual(last(*MARKED, drop(1), drop(0), drop(3), drop(2), ALL), [0])
        self.assertEqual(last(*MARKED, drop(3), mark(1, 2), ALL), [4, 0, 7, 9, 1, 4, 6, 2, 5, 5, 4, 1, 2])

    def test_vanished(self):
        self.assertEqual(last(*MARKED, change((3, 4, [])), ALL), [3, 0, 3, 5, 2, 3, 3, 3, 0, 6])
        self.assertEqual(last(*MARKED, change((0, 10, [])), ALL), [2, 0, 0, 0, 2, 0, 0])

    def test_vanished_and_dropped(self):
        calls = (*MARKED, change((0, 10, [])), drop(2), drop(3))
        self.assertEqual(last(*calls, ALL), [1, 0, 0, 0])
        self.assertEqual(last(*calls, UNDO, ALL), [2, 0, 7, 9, 1, 4, 6])

    def test_came_back(self):
        calls = (*MARKED, change((3, 4, [])))
        self.assertEqual(last(*calls, UNDO, ALL), last(*MARKED, ALL))
        self.assertEqual(last(*calls, UNDO, REDO, ALL), last(*calls, ALL))

    def test_came_back_with_one_set_and_one_made_since(self):
        calls = (*MARKED, change((3, 4, [70])), set_to(3, 3, 4), mark(0, 4))
        self.assertEqual(last(*calls, ALL), [4, 0, 3, 6, 2, 3, 3, 3, 3, 4, 4, 0, 4])
        self.assertEqual(last(*calls, UNDO, ALL), [4, 0, 7, 9, 1, 4, 6, 2, 5, 5, 4, 0, 3])

    def test_behind_begins(self):
        self.assertEqual(last(*MARKED, begins([1]), ALL), [0])
        self.assertEqual(last(*MARKED, begins([1]), mark(0, 1), ALL), [1, 0, 0, 1])
        self.assertEqual(last(*MARKED, begins([256]), ALL), last(*MARKED, ALL))
