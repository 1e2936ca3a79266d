"""Point 6: stretch."""

import unittest

from tests.calls import HUGE, REDO, UNDO, ask, begins, change, drop, last, mark, set_to, stretch

TEN = begins(list(range(10)))
MARKED = (TEN, mark(2, 5), mark(4, 6, vanishes=1))
GONE = MARKED + (change((4, 2, [])),)


class StretchAnswers(unittest.TestCase):
    def test_from_and_to(self):
        self.assertEqual(ask(*MARKED, stretch(0), stretch(1))[-2:], [[2, 5], [4, 6]])

    def test_at_the_text_s_ends(self):
        self.assertEqual(last(TEN, mark(0, 10), stretch(0)), [0, 10])
        self.assertEqual(last(TEN, mark(10, 10), stretch(0)), [10, 10])
        self.assertEqual(last(mark(0, 0), stretch(0)), [0, 0])

    def test_where_it_was_set(self):
        self.assertEqual(last(*MARKED, set_to(0, 7, 7), stretch(0)), [7, 7])
        self.assertEqual(last(*MARKED, set_to(0, 7, 11), stretch(0)), [2, 5])

    def test_the_fortieth(self):
        self.assertEqual(last(TEN, *[mark(0, 1)] * 39, mark(3, 9), stretch(39)), [3, 9])

    def test_one_that_does_not_vanish_and_is_empty(self):
        self.assertEqual(last(TEN, mark(4, 4), stretch(0)), [4, 4])
        self.assertEqual(last(TEN, mark(4, 6), change((3, 4, [])), stretch(0)), [3, 3])
        self.assertEqual(last(TEN, mark(4, 6, 1, 0), change((3, 4, [70, 71])), stretch(0)), [5, 5])

    def test_goes_with_the_text(self):
        typed = change((0, 0, [70]), (2, 0, [71]), (5, 0, [72]))
        for leans, place in (((0, 0), [3, 7]), ((0, 1), [3, 8]), ((1, 0), [4, 7]), ((1, 1), [4, 8])):
            self.assertEqual(last(TEN, mark(2, 5, *leans), typed, stretch(0)), place)


class StretchRefused(unittest.TestCase):
    def test_no_such_stretch(self):
        self.assertEqual(ask(stretch(0)), [[-2]])
        for number in (2, 39, 40, HUGE):
            self.assertEqual(last(*MARKED, stretch(number)), [-2])

    def test_one_of_an_earlier_text(self):
        self.assertEqual(last(*MARKED, begins([1]), stretch(0)), [-2])

    def test_a_refused_mark(self):
        self.assertEqual(last(TEN, mark(0, 11), stretch(0)), [-2])

    def test_dropped(self):
        self.assertEqual(ask(*MARKED, drop(0), stretch(0), stretch(1))[-2:], [[-2], [4, 6]])

    def test_vanished(self):
        self.assertEqual(ask(*GONE, stretch(1), stretch(0))[-2:], [[-3], [2, 4]])

    def test_vanished_and_dropped(self):
        self.assertEqual(last(*GONE, drop(1), stretch(1)), [-2])
        self.assertEqual(last(*GONE, drop(1), UNDO, stretch(1)), [-2])

    def test_changes_nothing(self):
        asked = (stretch(1), stretch(7))
        self.assertEqual(ask(*GONE, *asked, UNDO, stretch(1))[-4:], [[-3], [-2], [0, 10], [4, 6]])


class StretchBehindUndo(unittest.TestCase):
    def test_came_back(self):
        self.assertEqual(last(*GONE, UNDO, stretch(1)), [4, 6])
        self.assertEqual(last(*GONE, UNDO, REDO, stretch(1)), [-3])
        self.assertEqual(last(*GONE, UNDO, REDO, UNDO, stretch(1)), [4, 6])

    def test_came_back_through_several_steps(self):
        calls = MARKED + (change((0, 1, [70, 71])), change((5, 2, [])), change((0, 3, [])))
        self.assertEqual(last(*calls, stretch(1)), [-3])
        self.assertEqual(last(*calls, UNDO, stretch(1)), [-3])
        self.assertEqual(last(*calls, UNDO, UNDO, stretch(1)), [5, 7])
        self.assertEqual(last(*calls, UNDO, UNDO, UNDO, stretch(1)), [4, 6])

    def test_moved_and_back(self):
        calls = (TEN, mark(3, 4, 0, 1), change((2, 3, [70])))
        self.assertEqual(ask(*calls, stretch(0), UNDO, stretch(0), REDO, stretch(0))[3::2], [[2, 3], [3, 4], [2, 3]])

    def test_set_since(self):
        calls = (TEN, mark(3, 4, 0, 1), change((2, 3, [70])), set_to(0, 2, 3))
        self.assertEqual(ask(*calls, UNDO, stretch(0), REDO, stretch(0))[5::2], [[2, 5], [2, 3]])

    def test_made_since(self):
        calls = (TEN, change((2, 3, [70])), mark(2, 3, 0, 1))
        self.assertEqual(last(*calls, UNDO, stretch(0)), [2, 5])

    def test_vanished_by_the_undo(self):
        calls = (TEN, change((2, 0, [70])), mark(2, 3, vanishes=1), UNDO)
        self.assertEqual(last(*calls, stretch(0)), [-3])
        self.assertEqual(last(*calls, REDO, stretch(0)), [-3])
