"""shows: the text's bytes."""

import unittest

from tests.calls import HUGE, REDO, SHOWS, UNDO, ask, begins, change, last, mark


class Shows(unittest.TestCase):
    def test_never_begun(self):
        self.assertEqual(ask(SHOWS), [[0]])

    def test_no_bytes(self):
        self.assertEqual(last(begins([]), SHOWS), [0])

    def test_some_bytes(self):
        self.assertEqual(last(begins([7]), SHOWS), [1, 7])
        self.assertEqual(last(begins([0, 255, 0, 13]), SHOWS), [4, 0, 255, 0, 13])

    def test_600_bytes(self):
        content = [k * 7 % 256 for k in range(600)]
        self.assertEqual(last(begins(content), SHOWS), [600] + content)

    def test_asked_again(self):
        self.assertEqual(ask(begins([4, 5]), SHOWS, SHOWS), [[2], [2, 4, 5], [2, 4, 5]])

    def test_stretches_are_not_shown(self):
        self.assertEqual(last(begins([4, 5]), mark(0, 2, value=9), SHOWS), [2, 4, 5])

    def test_behind_begins(self):
        self.assertEqual(last(begins([4, 5]), begins([6]), SHOWS), [1, 6])

    def test_behind_begins_that_is_refused(self):
        self.assertEqual(last(begins([4, 5]), begins([256]), SHOWS), [2, 4, 5])
        self.assertEqual(last(begins([4, 5]), begins([6] * 601), SHOWS), [2, 4, 5])


class ShowsBehindChanges(unittest.TestCase):
    def test_change_undo_and_redo(self):
        told = change((1, 1, [7, 8]), (3, 0, [9]))
        answered = ask(begins([1, 2, 3]), told, SHOWS, UNDO, SHOWS, REDO, SHOWS)
        self.assertEqual(answered[2::2], [[5, 1, 7, 8, 3, 9], [3, 1, 2, 3], [5, 1, 7, 8, 3, 9]])

    def test_each_of_several_steps(self):
        steps = (change((0, 0, [1, 2, 3, 4])), change((1, 2, [])), change((0, 1, [9]), (2, 0, [8, 7])))
        texts = ([0], [4, 1, 2, 3, 4], [2, 1, 4], [4, 9, 4, 8, 7])
        for count in range(4):
            done = steps[:count]
            self.assertEqual(last(*done, SHOWS), texts[count])
            self.assertEqual(last(*steps, *[UNDO] * (3 - count), SHOWS), texts[count])
            self.assertEqual(last(*steps, *[UNDO] * 3, *[REDO] * count, SHOWS), texts[count])

    def test_nothing_to_be_taken_back_or_done_again(self):
        self.assertEqual(last(begins([1, 2]), UNDO, REDO, SHOWS), [2, 1, 2])

    def test_none_told(self):
        self.assertEqual(last(begins([1, 2]), change(), SHOWS), [2, 1, 2])
        self.assertEqual(last(begins([1, 2]), change((0, 1, [])), change(), UNDO, SHOWS), [1, 2])

    def test_all_goes_out_and_comes_back(self):
        content = [k % 256 for k in range(600)]
        answered = ask(begins(content), change((0, 600, [])), SHOWS, UNDO, SHOWS)
        self.assertEqual((answered[2], answered[4]), ([0], [600] + content))

    def test_a_refused_change(self):
        for bad in (
            change((1, 1, [9]), (2, 0, [9])), change((2, 1, [9])), change((HUGE, 0, [9])),
            change((0, 1, [9]), (2, 0, [256])), change((0, 0, [9] * 599)),
        ):
            self.assertEqual(last(begins([1, 2]), bad, SHOWS), [2, 1, 2])
