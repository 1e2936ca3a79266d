"""markstretch.text.answers: how calls are told, and how they are answered."""

import contextlib
import io
import unittest

import markstretch.text
from markstretch.text import answers
from tests.calls import (
    ALL, HUGE, REDO, SHOWS, UNDO, ask, begins, change, drop, flat, last, mark, next_of, over, runs, set_to, stretch,
)

LOOKS = (
    SHOWS, stretch(0), stretch(1), over(0), over(3), runs(0, 3), runs(3, 0), next_of(0, 4), next_of(0, 5), ALL,
)
LINE = flat((
    begins([1, 2, 3]), mark(0, 2, 0, 1, 1, 3, 4), mark(3, 2), mark(1, 3, value=4), *LOOKS,
    change((1, 1, [9, 8]), (3, 0, [7])), *LOOKS, set_to(0, 0, 1), UNDO, *LOOKS, REDO, UNDO, UNDO, drop(0), drop(0),
    *LOOKS, begins([256]),
))
CHANGING = ("append", "clear", "extend", "insert", "pop", "remove", "reverse", "sort")


class Guarded(list):
    """A list that fails when it's changed, if only for a while."""

    def refuse(self, *told):
        raise AssertionError("what is handed in was changed")

    __setitem__ = __delitem__ = __iadd__ = __imul__ = refuse


for name in CHANGING:
    setattr(Guarded, name, Guarded.refuse)


class Answers(unittest.TestCase):
    def test_told_and_answered_number_by_number(self):
        calls = [0, 3, 1, 2, 3, 1, 0, 2, 0, 1, 1, 3, 4, 4, 9, 1, 1, 2, 9, 8, 3, 0, 1, 7, 2, 0, 0, 1, 3, 0, 5, 6]
        self.assertEqual(answers(calls), [1, 3, 1, 0, 2, 0, 5, 1, 0, 1, 0, 2, 0, 3, 2, 0, 5])

    def test_refusals_are_one_number(self):
        told = [0, 1, 256, 1, 1, 0, 0, 0, 0, 0, 0, 2, 0, 0, 0, 3, 0, 4, 3, 1, 0, 0, 5, 6]
        self.assertEqual(answers(told), [1, -1, 1, -1, 1, -2, 1, -2, 1, -1, 1, -7, 1, -7])

    def test_looks_told_and_answered_number_by_number(self):
        told = [0, 3, 7, 8, 9, 1, 1, 3, 0, 0, 0, 2, 41, 7, 8, 0, 9, 1, 10, 0, 3, 11, 0, 41, 12]
        answered = [1, 3, 1, 0, 4, 3, 7, 8, 9, 2, 1, 3, 2, 1, 0, 7, 2, 0, 1, 0, 1, 3, 42, 3, 0, 1, 3, 4, 1, 0, 1, 3]
        self.assertEqual(answers(told), answered)

    def test_looks_with_nothing_there(self):
        self.assertEqual(answers([7, 8, 0, 9, 0, 10, 0, 0, 11, 0, 0, 12]), [1, 0, 1, -2, 1, -1, 1, 0, 1, -6, 1, 0])

    def test_refused_looks_are_one_number(self):
        told = [0, 1, 5, 8, HUGE, 9, HUGE, 10, HUGE, HUGE, 11, HUGE, HUGE]
        self.assertEqual(answers(told), [1, 1, 1, -2, 1, -1, 1, -1, 1, -6])

    def test_no_look_changes_anything(self):
        marks = (begins([1, 2, 3, 4]), mark(0, 3, 0, 1, 1, 3, 4), mark(1, 3, value=4), change((0, 0, [5])), UNDO)
        rest = (set_to(0, 1, 2), REDO, UNDO, mark(0, 1), change((1, 2, [])), drop(1), *LOOKS)
        self.assertEqual(ask(*marks, *LOOKS, *LOOKS, *rest)[-len(rest):], ask(*marks, *rest)[-len(rest):])

    def test_rows_without_numbers(self):
        self.assertEqual(answers([0, 0, 4, 0]), [1, 0, 2, 0, 0])

    def test_what_is_handed_in_stays(self):
        told = list(LINE)
        answers(told)
        self.assertEqual(told, LINE)

    def test_what_is_handed_in_is_not_changed_for_a_while_either(self):
        self.assertEqual(answers(Guarded(LINE)), answers(LINE))

    def test_what_is_answered_is_not_kept(self):
        content = [1, 2, 3]
        told = flat((begins(content), SHOWS))
        answers(told).clear()
        self.assertEqual(answers(told), [1, 3, 4, 3, 1, 2, 3])

    def test_prints_nothing(self):
        printed = io.StringIO()
        with contextlib.redirect_stdout(printed), contextlib.redirect_stderr(printed):
            answers(LINE)
        self.assertEqual(printed.getvalue(), "")

    def test_by_its_module(self):
        self.assertEqual(markstretch.text.answers([7]), [1, 0])

    def test_asked_twice(self):
        self.assertEqual(answers(LINE), answers(LINE))

    def test_nothing_is_kept(self):
        first = answers([1, 0, 0, 0, 0, 0, 0, 0])
        answers(LINE)
        self.assertEqual(answers([1, 0, 0, 0, 0, 0, 0, 0]), first)
        self.assertEqual(answers([5]), [1, -7])

    def test_a_list_of_whole_numbers(self):
        answered = answers(LINE)
        self.assertIs(type(answered), list)
        for number in answered:
            self.assertIs(type(number), int)

    def test_the_answer_is_the_caller_s(self):
        answers(LINE).clear()
        self.assertNotEqual(answers(LINE), [])

    def test_sixty_calls(self):
        every_other = change(*[(2 * k, 1, [2]) for k in range(300)])
        told = flat([begins([1] * 600)] + [every_other] * 19 + [UNDO] * 20 + [REDO] * 20)
        answered = [1, 600] + [2, 0, 600] * 19
        for left in range(18, -1, -1):
            answered += [2, left, 600]
        answered += [1, -7]
        for left in range(18, -1, -1):
            answered += [2, left, 600]
        self.assertEqual(answers(told), answered + [1, -7])

    def test_sixty_looks(self):
        content = [k % 256 for k in range(600)]
        self.assertEqual(last(begins(content), *[SHOWS] * 59), [600] + content)
        marks = [mark(k, 600 - k, rank=k // 4, value=k) for k in range(40)]
        looks = [over(300), runs(0, 600), ALL, next_of(38, 39)] * 4 + [SHOWS] * 3
        answered = ask(begins(content), *marks, *looks)
        self.assertEqual(len(answered), 60)
        self.assertEqual(answered[41], [40] + list(range(39, -1, -1)))
        self.assertEqual(answered[42][:7], [79, 0, 1, 1, 1, 2, 2])
        self.assertEqual(answered[43][-3:], [39, 39, 561])
        self.assertEqual(answered[44], [39, 39, 561])
        self.assertEqual(answered[41:45] * 4, answered[41:57])


class LongChanges(unittest.TestCase):
    def check(self, call, numbers):
        self.assertEqual((call[1], len(call)), (numbers, numbers + 2))

    def test_2000_numbers_of_one_change(self):
        told = change((0, 0, [7] * 1997))
        self.check(told, 2000)
        self.assertEqual(ask(told, SHOWS), [[-6], [0]])
        self.assertEqual(ask(change((0, 0, [7] * 1996 + [256])), SHOWS), [[-1], [0]])

    def test_2000_numbers_of_many_changes(self):
        content = [k % 256 for k in range(600)]
        told = change(*[(k, 0, []) for k in range(600)], (600, 0, [7] * 197))
        self.check(told, 2000)
        self.assertEqual(ask(begins(content), told, SHOWS)[1:], [[-6], [600] + content])
        told = change(*[(k, 0, []) for k in range(600)], (601, 0, [7] * 197))
        self.check(told, 2000)
        self.assertEqual(ask(begins(content), told, SHOWS)[1:], [[-1], [600] + content])

    def test_601_changes_at_once(self):
        content = [k % 256 for k in range(600)]
        told = change(*[(k, 0, []) for k in range(601)])
        self.check(told, 1803)
        calls = (begins(content), mark(0, 600, 1, 0, 1), mark(300, 300), told)
        self.assertEqual(ask(*calls, SHOWS, ALL)[3:], [[0, 600], [600] + content, [2, 0, 0, 600, 1, 300, 300]])

    def test_200_bytes_come_in_one_by_one(self):
        told = change(*[(2 * k, 0, [9]) for k in range(200)])
        calls = (begins([1] * 400), mark(100, 200, 0, 1), mark(100, 200, 1, 0), told)
        self.assertEqual(ask(*calls, stretch(0), stretch(1))[3:], [[0, 600], [150, 301], [151, 300]])
        self.assertEqual(last(*calls, SHOWS), [600] + [9, 1, 1] * 200)
        self.assertEqual(ask(*calls, UNDO, SHOWS, ALL)[4:], [
            [0, 400], [400] + [1] * 400, [2, 0, 100, 200, 1, 100, 200],
        ])

    def test_30000_numbers_in_all(self):
        told = change(*[(k, 0, []) for k in range(601)])
        calls = [begins([1] * 600)] + [mark(0, 600, 0, 1, 1)] * 20 + [told] * 16 + [UNDO, REDO] * 10
        self.assertLessEqual(len(flat(calls)), 30000)
        self.assertEqual(ask(*calls, ALL)[-2:], [[0, 600], [20] + flat([number, 0, 600] for number in range(20))])
