"""Point 3: set and drop."""

import unittest

from tests.calls import ALL, HUGE, UNDO, ask, begins, behind, change, drop, ends, last, mark, picture, probe, set_to

TEXT = begins([1, 2, 3, 4])
MARKED = (TEXT, mark(1, 3), mark(1, 3, vanishes=1))
GONE = MARKED + (change((1, 2, [])),)


class SetAnswers(unittest.TestCase):
    def test_goes_there_now(self):
        self.assertEqual(last(*MARKED, set_to(1, 0, 4)), [0])
        self.assertEqual(ends(behind(*MARKED, set_to(1, 0, 4)), 1), (0, 4))
        self.assertEqual(ends(behind(*MARKED, set_to(1, 0, 4)), 0), (1, 3))

    def test_seen_by_what_vanishes(self):
        calls = (TEXT, mark(1, 3, vanishes=1), set_to(0, 2, 4))
        self.assertEqual(probe(calls, 4), (2, 4))

    def test_to_where_it_is(self):
        self.assertEqual(last(*MARKED, set_to(0, 1, 3)), [0])
        self.assertEqual(ends(behind(*MARKED, set_to(0, 1, 3)), 0), (1, 3))

    def test_at_the_text_s_end(self):
        self.assertEqual(last(*MARKED, set_to(0, 4, 4)), [0])
        self.assertEqual(last(*MARKED, set_to(1, 3, 4)), [0])

    def test_an_empty_one_that_does_not_vanish(self):
        self.assertEqual(ends(behind(*MARKED, set_to(0, 2, 2)), 0), (2, 2))

    def test_leans_and_vanishing_stay(self):
        calls = (TEXT, mark(0, 1, 1, 1, 1), set_to(0, 2, 3), change((2, 0, [9])))
        self.assertEqual(ends(behind(*calls), 0), (3, 4))
        self.assertEqual(last(*calls, change((3, 1, []))), [1, 4])


class SetRefused(unittest.TestCase):
    def refused(self, calls, call, number):
        self.assertEqual(last(*calls, call), [number])
        self.assertEqual(picture(behind(*calls, call)), picture(behind(*calls)))

    def test_no_such_stretch(self):
        self.refused(MARKED, set_to(2, 0, 1), -2)
        self.refused(MARKED, set_to(HUGE, 0, 1), -2)
        self.refused((TEXT,), set_to(0, 0, 1), -2)

    def test_dropped(self):
        self.refused(MARKED + (drop(0),), set_to(0, 0, 1), -2)

    def test_vanished(self):
        self.refused(GONE, set_to(1, 0, 1), -3)
        self.assertEqual(last(*GONE, set_to(0, 0, 1)), [0])

    def test_to_below_from(self):
        self.refused(MARKED, set_to(0, 2, 1), -1)
        self.refused(MARKED, set_to(0, HUGE, 0), -1)

    def test_beyond_the_text(self):
        self.refused(MARKED, set_to(0, 0, 5), -1)
        self.refused(MARKED, set_to(0, 5, 5), -1)
        self.refused(MARKED, set_to(0, HUGE, HUGE), -1)

    def test_one_that_vanishes_and_would_be_empty(self):
        for place in range(5):
            self.refused(MARKED, set_to(1, place, place), -1)

    def test_of_several_the_one_told_first(self):
        self.refused(MARKED, set_to(2, 3, 1), -2)
        self.refused(MARKED + (drop(1),), set_to(1, 2, 2), -2)
        self.refused(GONE + (drop(1),), set_to(1, 0, 1), -2)
        self.refused(GONE, set_to(1, 2, 1), -3)
        self.refused(GONE, set_to(1, 0, 5), -3)
        self.refused(GONE, set_to(1, 1, 1), -3)
        self.refused(MARKED, set_to(1, 5, 5), -1)

    def test_a_refused_set_does_not_count_as_set(self):
        calls = (TEXT, mark(0, 4, 0, 1), change((1, 2, [7])), set_to(0, 0, 9), UNDO)
        self.assertEqual(ends(behind(*calls), 0), (0, 4))
        calls = (TEXT, mark(1, 2), change((1, 2, [7])), set_to(0, 0, 9), UNDO)
        self.assertEqual(ends(behind(*calls), 0), (1, 2))


class Drop(unittest.TestCase):
    def test_is_there_no_more(self):
        self.assertEqual(last(*MARKED, drop(0)), [0])
        self.assertEqual(last(*MARKED, drop(0), set_to(0, 0, 1)), [-2])
        self.assertEqual(last(*MARKED, drop(0), drop(0)), [-2])

    def test_the_others_stay(self):
        self.assertEqual(last(*MARKED, drop(0), ALL), [1, 1, 1, 3])
        self.assertEqual(ends(behind(*MARKED, drop(0)), 1), (1, 3))

    def test_one_that_has_vanished(self):
        self.assertEqual(last(*GONE, drop(1)), [0])
        self.assertEqual(ask(*GONE, drop(1), drop(1), set_to(1, 0, 1))[-2:], [[-2], [-2]])

    def test_does_not_vanish_any_more(self):
        self.assertEqual(last(*MARKED, drop(1), change((1, 2, []))), [0, 2])

    def test_no_such_stretch(self):
        for number in (2, 40, HUGE):
            self.assertEqual(last(*MARKED, drop(number)), [-2])
            self.assertEqual(picture(behind(*MARKED, drop(number))), picture(behind(*MARKED)))

    def test_never_comes_back(self):
        self.assertEqual(last(*GONE, drop(1), UNDO, drop(1)), [-2])
        self.assertEqual(last(*GONE, drop(0), UNDO, set_to(0, 0, 1)), [-2])
