"""markstretch.text.answers: how calls are told, and how they are answered."""

import unittest

from markstretch.text import answers
from tests.calls import REDO, UNDO, begins, change, drop, flat, mark, set_to

LINE = flat((
    begins([1, 2, 3]), mark(0, 2, 0, 1, 1, 3, 4), mark(3, 2), change((1, 1, [9, 8]), (3, 0, [7])), set_to(0, 0, 1),
    UNDO, REDO, UNDO, UNDO, drop(0), drop(0), begins([256]),
))


class Answers(unittest.TestCase):
    def test_told_and_answered_number_by_number(self):
        calls = [0, 3, 1, 2, 3, 1, 0, 2, 0, 1, 1, 3, 4, 4, 9, 1, 1, 2, 9, 8, 3, 0, 1, 7, 2, 0, 0, 1, 3, 0, 5, 6]
        self.assertEqual(answers(calls), [1, 3, 1, 0, 2, 0, 5, 1, 0, 1, 0, 2, 0, 3, 2, 0, 5])

    def test_refusals_are_one_number(self):
        told = [0, 1, 256, 1, 1, 0, 0, 0, 0, 0, 0, 2, 0, 0, 0, 3, 0, 4, 3, 1, 0, 0, 5, 6]
        self.assertEqual(answers(told), [1, -1, 1, -1, 1, -2, 1, -2, 1, -1, 1, -7, 1, -7])

    def test_rows_without_numbers(self):
        self.assertEqual(answers([0, 0, 4, 0]), [1, 0, 2, 0, 0])

    def test_what_is_handed_in_stays(self):
        told = list(LINE)
        answers(told)
        self.assertEqual(told, LINE)

    def test_asked_twice(self):
        self.assertEqual(answers(LINE), answers(LINE))

    def test_nothing_is_kept(self):
        first = answers([1, 0, 0, 0, 0, 0, 0, 0])
        answers(LINE)
        self.assertEqual(answers([1, 0, 0, 0, 0, 0, 0, 0]), first)
        self.assertEqual(answers([5]), [1, -7])

    def test_a_list_of_whole_numbers(self):
        answered = answers(LINE)
        self.assertIs(type(answered), list)
        for number in answered:
            self.assertIs(type(number), int)

    def test_the_answer_is_the_caller_s(self):
        answers(LINE).clear()
        self.assertNotEqual(answers(LINE), [])

    def test_sixty_calls(self):
        every_other = change(*[(2 * k, 1, [2]) for k in range(300)])
        told = flat([begins([1] * 600)] + [every_other] * 19 + [UNDO] * 20 + [REDO] * 20)
        answered = [1, 600] + [2, 0, 600] * 19
        for left in range(18, -1, -1):
            answered += [2, left, 600]
        answered += [1, -7]
        for left in range(18, -1, -1):
            answered += [2, left, 600]
        self.assertEqual(answers(told), answered + [1, -7])
