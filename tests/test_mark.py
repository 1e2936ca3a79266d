"""Point 2: mark."""

import unittest

from tests.calls import (
    HUGE, ask, begins, behind, change, drop, ends, last, mark, over, picture, runs, set_to, stretch,
)

TEXT = begins([1, 2, 3, 4])


class MarkAnswers(unittest.TestCase):
    def test_numbers_in_order(self):
        self.assertEqual(ask(TEXT, mark(0, 1), mark(0, 1), mark(2, 4))[1:], [[0], [1], [2]])

    def test_keeps_what_it_is_told(self):
        typed = change((1, 0, [7]), (3, 0, [8]))
        for leans, place in (((0, 0), [1, 4]), ((0, 1), [1, 5]), ((1, 0), [2, 4]), ((1, 1), [2, 5])):
            calls = (TEXT, mark(1, 3, *leans, 1, 9, 99))
            self.assertEqual(last(*calls, stretch(0)), [1, 3])
            self.assertEqual(last(*calls, typed, stretch(0)), place)
            self.assertEqual(last(*calls, change((1, 2, [])), stretch(0)), [-3])
            self.assertEqual(last(*calls, runs(1, 3)), [1, 1, 3, 100])
            self.assertEqual(last(*calls, mark(0, 4, rank=8), mark(0, 4, rank=9), over(1)), [3, 2, 0, 1])

    def test_a_number_is_not_given_twice(self):
        self.assertEqual(ask(TEXT, mark(0, 1), drop(0), mark(0, 1))[1:], [[0], [0], [1]])

    def test_a_vanished_number_is_not_given_twice(self):
        calls = (TEXT, mark(0, 1, vanishes=1), change((0, 1, [])), mark(0, 1))
        self.assertEqual(last(*calls), [1])

    def test_a_refused_mark_takes_no_number(self):
        self.assertEqual(ask(TEXT, mark(0, 5), mark(0, 4))[1:], [[-1], [0]])

    def test_at_the_text_s_end(self):
        self.assertEqual(last(TEXT, mark(0, 4)), [0])
        self.assertEqual(last(TEXT, mark(4, 4)), [0])
        self.assertEqual(ends(behind(TEXT, mark(4, 4)), 0), (4, 4))


class MarkRefused(unittest.TestCase):
    def refused(self, *bad):
        for call in bad:
            self.assertEqual(last(TEXT, call), [-1])
            self.assertEqual(picture(behind(TEXT, call)), picture(behind(TEXT)))

    def test_to_below_from(self):
        self.refused(mark(2, 1), mark(4, 0), mark(5, 4), mark(HUGE, 0))

    def test_beyond_the_text(self):
        self.refused(mark(0, 5), mark(4, 5), mark(5, 5), mark(HUGE, HUGE))

    def test_rank(self):
        self.assertEqual(last(TEXT, mark(0, 1, rank=9)), [0])
        self.refused(mark(0, 1, rank=10), mark(0, 1, rank=HUGE))

    def test_value(self):
        self.assertEqual(last(TEXT, mark(0, 1, value=99)), [0])
        self.refused(mark(0, 1, value=100), mark(0, 1, value=HUGE))

    def test_one_that_vanishes_and_is_empty(self):
        self.refused(mark(0, 0, vanishes=1), mark(2, 2, vanishes=1), mark(4, 4, 1, 1, 1))

    def test_an_empty_one_that_does_not_vanish(self):
        for place in range(5):
            self.assertEqual(last(TEXT, mark(place, place)), [0])

    def test_several_at_once(self):
        self.refused(mark(3, 2, rank=10), mark(5, 5, 1, 1, 1, 10, 100), mark(0, 1, rank=10, value=100))


class FortyStretches(unittest.TestCase):
    def test_the_fortieth_and_the_next(self):
        answered = ask(TEXT, *[mark(0, 1)] * 41)
        self.assertEqual(answered[1:], [[number] for number in range(40)] + [[-5]])

    def test_dropped_ones_count(self):
        calls = [TEXT] + [mark(0, 1)] * 39 + [drop(3), drop(38), mark(0, 1), mark(0, 1)]
        self.assertEqual(ask(*calls)[-4:], [[0], [0], [39], [-5]])

    def test_vanished_ones_count(self):
        calls = [TEXT] + [mark(0, 1, vanishes=1)] * 39 + [change((0, 1, [])), mark(0, 1), mark(0, 1)]
        self.assertEqual(ask(*calls)[-3:], [[39, 3], [39], [-5]])

    def test_refused_ones_do_not_count(self):
        calls = [TEXT] + [mark(0, 5)] * 10 + [mark(0, 1)] * 41
        self.assertEqual(ask(*calls)[-2:], [[39], [-5]])

    def test_changes_nothing(self):
        forty = [TEXT] + [mark(0, 1)] * 40
        self.assertEqual(picture(behind(*forty, mark(0, 1))), picture(behind(*forty)))

    def test_what_does_not_fit_is_told_first(self):
        forty = [TEXT] + [mark(0, 1)] * 40
        for bad in (
            mark(1, 0), mark(0, 5), mark(0, 1, rank=10), mark(0, 1, value=100), mark(1, 1, vanishes=1),
        ):
            self.assertEqual(last(*forty, bad), [-1])

    def test_a_stretch_may_still_be_set(self):
        self.assertEqual(last(TEXT, *[mark(0, 1)] * 40, set_to(39, 1, 2)), [0])
