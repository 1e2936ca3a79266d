"""Point 6: runs."""

import unittest

from tests.calls import HUGE, REDO, UNDO, ask, begins, change, drop, last, mark, runs, set_to

TEN = begins(list(range(10)))


def told(*rows):
    """What runs answers when these are the runs."""
    return [len(rows)] + [number for row in rows for number in row]


class RunsAnswers(unittest.TestCase):
    def test_no_stretch(self):
        self.assertEqual(last(TEN, runs(0, 10)), told((0, 10, 0)))
        self.assertEqual(last(TEN, runs(3, 4)), told((3, 4, 0)))

    def test_begin_and_end_alike(self):
        for place in range(11):
            self.assertEqual(last(TEN, mark(0, 10, value=5), runs(place, place)), [0])

    def test_an_empty_text(self):
        self.assertEqual(ask(runs(0, 0)), [[0]])
        self.assertEqual(last(begins([]), mark(0, 0), runs(0, 0)), [0])
        self.assertEqual(last(TEN, mark(0, 10), change((0, 10, [])), runs(0, 0)), [0])

    def test_one_stretch(self):
        calls = (TEN, mark(3, 6, value=7))
        self.assertEqual(last(*calls, runs(0, 10)), told((0, 3, 0), (3, 6, 8), (6, 10, 0)))

    def test_over_the_whole_text(self):
        self.assertEqual(last(TEN, mark(0, 10, value=7), runs(0, 10)), told((0, 10, 8)))

    def test_at_the_text_s_ends(self):
        calls = (TEN, mark(0, 1, value=1), mark(9, 10, value=2))
        self.assertEqual(last(*calls, runs(0, 10)), told((0, 1, 2), (1, 9, 0), (9, 10, 3)))

    def test_lowest_and_highest_value(self):
        calls = (TEN, mark(0, 5, value=0), mark(5, 10, value=99))
        self.assertEqual(last(*calls, runs(0, 10)), told((0, 5, 1), (5, 10, 100)))

    def test_an_empty_stretch_is_on_top_of_nothing(self):
        self.assertEqual(last(TEN, mark(4, 4, rank=9, value=7), runs(0, 10)), told((0, 10, 0)))

    def test_as_many_as_there_can_be(self):
        marks = [mark(2 * k + 1, 2 * k + 2, value=k) for k in range(40)]
        rows = [(place, place + 1, place // 2 + 1 if place % 2 else 0) for place in range(80)] + [(80, 600, 0)]
        self.assertEqual(last(begins([1] * 600), *marks, runs(0, 600)), told(*rows))


class RunsOfParts(unittest.TestCase):
    def test_a_longer_run_is_cut(self):
        calls = (TEN, mark(3, 8, value=7))
        self.assertEqual(last(*calls, runs(4, 6)), told((4, 6, 8)))
        self.assertEqual(last(*calls, runs(2, 5)), told((2, 3, 0), (3, 5, 8)))
        self.assertEqual(last(*calls, runs(6, 9)), told((6, 8, 8), (8, 9, 0)))
        self.assertEqual(last(*calls, runs(0, 2)), told((0, 2, 0)))

    def test_just_a_run(self):
        calls = (TEN, mark(3, 8, value=7))
        self.assertEqual(last(*calls, runs(3, 8)), told((3, 8, 8)))
        self.assertEqual(last(*calls, runs(0, 3)), told((0, 3, 0)))
        self.assertEqual(last(*calls, runs(8, 10)), told((8, 10, 0)))

    def test_every_part(self):
        calls = (TEN, mark(1, 7, value=3), mark(2, 4, value=5), mark(6, 9, value=5), mark(4, 5, rank=1, value=3))
        tops = [0, 4, 6, 6, 4, 4, 6, 6, 6, 0]
        for begin in range(11):
            for end in range(begin, 11):
                self.check(last(*calls, runs(begin, end)), begin, end, tops)

    def check(self, answered, begin, end, tops):
        rows = [tuple(answered[at:at + 3]) for at in range(1, len(answered), 3)]
        self.assertEqual(answered, told(*rows))
        painted = [top for first, stop, top in rows for place in range(first, stop)]
        self.assertEqual(painted, tops[begin:end])
        self.assertEqual([row[0] for row in rows] + [end], [begin] + [row[1] for row in rows])
        self.assertTrue(all(one[2] != other[2] for one, other in zip(rows, rows[1:])))


class RunsOnTop(unittest.TestCase):
    def test_below_another_of_the_same_value(self):
        self.assertEqual(last(TEN, mark(2, 8, value=7), mark(4, 6, value=7), runs(2, 8)), told((2, 8, 8)))
        self.assertEqual(last(TEN, mark(2, 6, value=7), mark(4, 8, rank=9, value=7), runs(2, 8)), told((2, 8, 8)))

    def test_below_another_of_another_value(self):
        calls = (TEN, mark(2, 8, value=7), mark(4, 6, value=9))
        self.assertEqual(last(*calls, runs(2, 8)), told((2, 4, 8), (4, 6, 10), (6, 8, 8)))

    def test_wholly_below(self):
        calls = (TEN, mark(4, 6, value=7), mark(2, 8, value=9))
        self.assertEqual(last(*calls, runs(0, 10)), told((0, 2, 0), (2, 8, 10), (8, 10, 0)))

    def test_neighbours_of_the_same_value(self):
        self.assertEqual(last(TEN, mark(2, 4, value=7), mark(4, 6, value=7), runs(2, 6)), told((2, 6, 8)))
        self.assertEqual(last(TEN, mark(4, 6, rank=3, value=7), mark(2, 4, value=7), runs(2, 6)), told((2, 6, 8)))

    def test_neighbours_of_another_value(self):
        calls = (TEN, mark(2, 4, value=7), mark(4, 6, value=6))
        self.assertEqual(last(*calls, runs(2, 6)), told((2, 4, 8), (4, 6, 7)))

    def test_not_quite_neighbours(self):
        calls = (TEN, mark(2, 4, value=7), mark(5, 6, value=7))
        self.assertEqual(last(*calls, runs(2, 6)), told((2, 4, 8), (4, 5, 0), (5, 6, 8)))

    def test_by_rank(self):
        calls = (TEN, mark(0, 10, rank=5, value=1), mark(2, 8, rank=4, value=2), mark(4, 6, rank=6, value=3))
        self.assertEqual(last(*calls, runs(0, 10)), told((0, 4, 2), (4, 6, 4), (6, 10, 2)))

    def test_of_one_rank_the_later_set(self):
        calls = (TEN, mark(0, 6, value=1), mark(4, 10, value=2))
        self.assertEqual(last(*calls, runs(0, 10)), told((0, 4, 2), (4, 10, 3)))
        self.assertEqual(last(*calls, set_to(0, 0, 6), runs(0, 10)), told((0, 6, 2), (6, 10, 3)))
        self.assertEqual(last(*calls, set_to(0, 0, 11), runs(0, 10)), told((0, 4, 2), (4, 10, 3)))

    def test_dropped(self):
        calls = (TEN, mark(0, 10, value=1), mark(4, 6, value=2), drop(1))
        self.assertEqual(last(*calls, runs(0, 10)), told((0, 10, 2)))

    def test_vanished_and_back(self):
        calls = (TEN, mark(0, 10, value=1), mark(4, 6, 0, 1, 1, 3, 2), change((4, 2, [])))
        self.assertEqual(last(*calls, runs(0, 8)), told((0, 8, 2)))
        self.assertEqual(last(*calls, change((4, 0, [70, 71])), runs(0, 10)), told((0, 10, 2)))
        self.assertEqual(last(*calls, UNDO, runs(0, 10)), told((0, 4, 2), (4, 6, 3), (6, 10, 2)))
        self.assertEqual(last(*calls, UNDO, REDO, runs(0, 8)), told((0, 8, 2)))


class RunsRefused(unittest.TestCase):
    def test_to_below_from(self):
        for begin, end in ((1, 0), (10, 9), (HUGE, 0), (5, 2), (11, 10)):
            self.assertEqual(last(TEN, runs(begin, end)), [-1])

    def test_beyond_the_text(self):
        for begin, end in ((0, 11), (10, 11), (11, 11), (HUGE, HUGE), (0, HUGE)):
            self.assertEqual(last(TEN, runs(begin, end)), [-1])

    def test_both_at_once(self):
        self.assertEqual(last(TEN, runs(12, 11)), [-1])
        self.assertEqual(last(TEN, runs(HUGE, 11)), [-1])

    def test_an_empty_text(self):
        self.assertEqual(ask(runs(0, 1), runs(1, 1), runs(1, 0)), [[-1], [-1], [-1]])

    def test_the_text_as_it_is_now(self):
        calls = (TEN, change((0, 1, [])))
        self.assertEqual(ask(*calls, runs(0, 10), runs(0, 9), UNDO, runs(0, 10))[-4:], [
            [-1], [1, 0, 9, 0], [0, 10], [1, 0, 10, 0],
        ])

    def test_changes_nothing(self):
        calls = (TEN, mark(2, 4, value=7), runs(4, 2), runs(0, 11))
        self.assertEqual(last(*calls, runs(2, 4)), told((2, 4, 8)))
