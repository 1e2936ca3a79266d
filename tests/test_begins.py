"""Point 1: begins."""

import unittest

from tests.calls import (
    HUGE, REDO, UNDO, ask, begins, behind, change, drop, last, mark, picture, set_to,
)

FULL = (
    begins([1, 2, 3, 4]), mark(0, 2, vanishes=1), mark(1, 3), change((0, 1, [7])), change((1, 0, [8])), UNDO,
)


class BeginsAnswers(unittest.TestCase):
    def test_how_many_bytes(self):
        self.assertEqual(ask(begins([5, 6, 7])), [[3]])
        self.assertEqual(behind(begins([5, 6, 7])).content, [5, 6, 7])

    def test_no_bytes(self):
        self.assertEqual(ask(begins([])), [[0]])

    def test_highest_byte(self):
        self.assertEqual(ask(begins([0, 255])), [[2]])
        self.assertEqual(ask(begins([0, 256])), [[-1]])
        self.assertEqual(ask(begins([256, 0])), [[-1]])
        self.assertEqual(ask(begins([HUGE])), [[-1]])

    def test_most_bytes(self):
        self.assertEqual(ask(begins([9] * 600)), [[600]])
        self.assertEqual(ask(begins([9] * 601)), [[-1]])
        self.assertEqual(ask(begins([9] * 700)), [[-1]])
        self.assertEqual(ask(begins([256] * 700)), [[-1]])


class BeginsAgain(unittest.TestCase):
    def test_no_stretches_are_left(self):
        self.assertEqual(last(*FULL, begins([1]), set_to(0, 0, 1)), [-2])
        self.assertEqual(last(*FULL, begins([1]), drop(1)), [-2])
        self.assertEqual(last(*FULL, begins([1]), change((0, 1, []))), [0, 0])

    def test_numbers_begin_with_0(self):
        self.assertEqual(ask(*FULL, begins([1]), mark(0, 1), mark(0, 1))[-2:], [[0], [1]])

    def test_forty_may_be_made_anew(self):
        forty = [mark(0, 0)] * 40
        self.assertEqual(last(begins([]), *forty, begins([]), mark(0, 0)), [0])

    def test_nothing_can_be_taken_back_or_done_again(self):
        self.assertEqual(ask(*FULL, begins([1]), UNDO, REDO)[-2:], [[-7], [-7]])

    def test_is_as_at_first(self):
        self.assertEqual(picture(behind(*FULL, begins([3, 4]))), picture(behind(begins([3, 4]))))

    def test_places_are_of_the_new_text(self):
        self.assertEqual(ask(*FULL, begins([1]), mark(0, 2), mark(0, 1))[-2:], [[-1], [0]])

    def test_a_new_text_without_bytes(self):
        self.assertEqual(last(*FULL, begins([]), change((0, 0, [1]))), [0, 1])


class BeginsRefused(unittest.TestCase):
    def test_changes_nothing(self):
        for bad in (begins([256]), begins([1] * 601)):
            self.assertEqual(picture(behind(*FULL, bad)), picture(behind(*FULL)))

    def test_what_follows_is_answered_as_without_it(self):
        rest = (mark(0, 4), set_to(0, 0, 1), REDO, UNDO, UNDO, change((0, 4, [])))
        for bad in (begins([256]), begins([1] * 601)):
            self.assertEqual(ask(*FULL, bad, *rest)[-6:], ask(*FULL, *rest)[-6:])


class NeverBegun(unittest.TestCase):
    def test_the_text_has_no_bytes_and_no_stretches(self):
        self.assertEqual(ask(mark(0, 1)), [[-1]])
        self.assertEqual(ask(mark(0, 0)), [[0]])
        self.assertEqual(ask(set_to(0, 0, 0)), [[-2]])
        self.assertEqual(ask(change((0, 1, []))), [[-1]])
        self.assertEqual(ask(change((0, 0, [1, 2]))), [[0, 2]])
        self.assertEqual(ask(UNDO, REDO), [[-7], [-7]])
