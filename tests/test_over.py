"""Point 6: over, and which of several stretches lies above another."""

import unittest

from tests.calls import ALL, HUGE, REDO, UNDO, ask, begins, change, drop, last, mark, over, set_to

TEN = begins(list(range(10)))


class Covered(unittest.TestCase):
    def test_by_none(self):
        for place in range(10):
            self.assertEqual(last(TEN, over(place)), [0])

    def test_first_byte_last_byte_and_the_one_behind(self):
        covered = [last(TEN, mark(3, 6), over(place)) for place in range(10)]
        self.assertEqual(covered, [[0]] * 3 + [[1, 0]] * 3 + [[0]] * 4)

    def test_at_the_text_s_ends(self):
        self.assertEqual(last(TEN, mark(0, 10), over(0)), [1, 0])
        self.assertEqual(last(TEN, mark(0, 10), over(9)), [1, 0])
        self.assertEqual(last(TEN, mark(0, 1), mark(9, 10), over(0)), [1, 0])
        self.assertEqual(last(TEN, mark(0, 1), mark(9, 10), over(9)), [1, 1])

    def test_an_empty_stretch_covers_nothing(self):
        for place in range(10):
            self.assertEqual(last(TEN, mark(4, 4), over(place)), [0])

    def test_one_that_has_vanished_covers_nothing(self):
        calls = (TEN, mark(4, 6, 0, 1, 1), change((4, 2, [])))
        for place in range(8):
            self.assertEqual(last(*calls, over(place)), [0])
        self.assertEqual(last(*calls, change((4, 0, [70, 71])), over(4)), [0])

    def test_a_dropped_one_covers_nothing(self):
        self.assertEqual(last(TEN, mark(4, 6), mark(4, 6), drop(0), over(4)), [1, 1])

    def test_one_that_came_back(self):
        calls = (TEN, mark(4, 6, vanishes=1), change((3, 4, [70])))
        self.assertEqual(last(*calls, UNDO, over(5)), [1, 0])
        self.assertEqual(last(*calls, UNDO, REDO, over(3)), [0])

    def test_goes_with_the_text(self):
        typed = change((3, 0, [70]), (6, 0, [71]))
        for leans, covered in (((0, 0), (3, 7)), ((0, 1), (3, 8)), ((1, 0), (4, 7)), ((1, 1), (4, 8))):
            for place in range(12):
                answered = last(TEN, mark(3, 6, *leans), typed, over(place))
                self.assertEqual(answered, [1, 0] if covered[0] <= place < covered[1] else [0])


class NoByteBehindThePlace(unittest.TestCase):
    def test_the_text_s_end(self):
        self.assertEqual(last(TEN, mark(0, 10), over(10)), [-1])
        self.assertEqual(last(TEN, mark(10, 10), over(10)), [-1])

    def test_beyond_the_text(self):
        self.assertEqual(last(TEN, over(11)), [-1])
        self.assertEqual(last(TEN, over(HUGE)), [-1])

    def test_an_empty_text(self):
        self.assertEqual(ask(over(0)), [[-1]])
        self.assertEqual(last(begins([]), mark(0, 0), over(0)), [-1])
        self.assertEqual(last(TEN, change((0, 10, [])), over(0)), [-1])

    def test_the_text_as_it_is_now(self):
        calls = (TEN, change((3, 2, [])))
        self.assertEqual(ask(*calls, over(7), over(8), UNDO, over(8), over(9), REDO, over(8))[-7:], [
            [0], [-1], [0, 10], [0], [0], [0, 8], [-1],
        ])

    def test_changes_nothing(self):
        self.assertEqual(ask(TEN, mark(2, 3), over(10), over(2), ALL)[-2:], [[1, 0], [1, 0, 2, 3]])


class Above(unittest.TestCase):
    def test_by_rank(self):
        marks = [mark(0, 10, rank=rank) for rank in (3, 9, 0, 5)]
        self.assertEqual(last(TEN, *marks, over(4)), [4, 1, 3, 0, 2])

    def test_of_one_rank_the_later_made(self):
        self.assertEqual(last(TEN, *[mark(0, 10, rank=4)] * 3, over(4)), [3, 2, 1, 0])

    def test_all_forty(self):
        marks = [mark(0, 10, rank=number % 10) for number in range(40)]
        meant = sorted(range(40), key=lambda number: (-(number % 10), -number))
        self.assertEqual(last(TEN, *marks, over(9)), [40] + meant)

    def test_the_value_does_not_count(self):
        marks = (mark(0, 10, value=99), mark(0, 10, value=50), mark(0, 10, value=0))
        self.assertEqual(last(TEN, *marks, over(4)), [3, 2, 1, 0])

    def test_places_do_not_count(self):
        self.assertEqual(last(TEN, mark(4, 5), mark(0, 10), mark(3, 8), over(4)), [3, 2, 1, 0])
        self.assertEqual(last(TEN, mark(0, 10), mark(3, 8), mark(4, 5), over(4)), [3, 2, 1, 0])

    def test_only_those_over_the_byte(self):
        marks = (mark(0, 4, rank=9), mark(2, 6), mark(5, 10, rank=9), mark(4, 5, rank=1))
        self.assertEqual(last(TEN, *marks, over(4)), [2, 3, 1])
        self.assertEqual(last(TEN, *marks, over(3)), [2, 0, 1])
        self.assertEqual(last(TEN, *marks, over(5)), [2, 2, 1])

    def test_of_one_rank_the_later_set(self):
        calls = (TEN, *[mark(0, 10)] * 3)
        self.assertEqual(last(*calls, set_to(0, 1, 9), over(4)), [3, 0, 2, 1])
        self.assertEqual(last(*calls, set_to(1, 1, 9), set_to(0, 1, 9), over(4)), [3, 0, 1, 2])
        self.assertEqual(last(*calls, set_to(0, 1, 9), mark(0, 10), over(4)), [4, 3, 0, 2, 1])

    def test_set_to_where_it_is(self):
        self.assertEqual(last(TEN, *[mark(0, 10)] * 3, set_to(1, 0, 10), over(4)), [3, 1, 2, 0])

    def test_a_set_does_not_lift_it_over_a_higher_rank(self):
        calls = (TEN, mark(0, 10), mark(0, 10, rank=1), set_to(0, 0, 10))
        self.assertEqual(last(*calls, over(4)), [2, 1, 0])

    def test_a_refused_set(self):
        calls = (TEN, mark(0, 10, vanishes=1), mark(0, 10, vanishes=1))
        for bad in (set_to(0, 5, 4), set_to(0, 0, 11), set_to(0, 4, 4)):
            self.assertEqual(ask(*calls, bad, over(4))[-2:], [[-1], [2, 1, 0]])

    def test_a_set_refused_while_it_had_vanished(self):
        calls = (TEN, mark(4, 5, vanishes=1), mark(0, 10), change((4, 1, [])), set_to(0, 0, 1), UNDO)
        self.assertEqual(last(*calls, over(4)), [2, 1, 0])

    def test_changes_and_undo_leave_which_is_above(self):
        calls = (TEN, mark(4, 6, vanishes=1), mark(3, 7), mark(4, 6, vanishes=1), set_to(0, 4, 6))
        self.assertEqual(last(*calls, over(4)), [3, 0, 2, 1])
        self.assertEqual(last(*calls, change((0, 1, [])), over(3)), [3, 0, 2, 1])
        self.assertEqual(last(*calls, change((4, 2, [])), UNDO, over(4)), [3, 0, 2, 1])
        self.assertEqual(last(*calls, change((5, 1, [])), UNDO, REDO, over(4)), [3, 0, 2, 1])

    def test_a_set_is_not_taken_back_by_undo(self):
        calls = (TEN, mark(0, 10), mark(0, 10), change((4, 1, [70])), set_to(0, 0, 10), UNDO)
        self.assertEqual(last(*calls, over(4)), [2, 0, 1])
        self.assertEqual(last(*calls, REDO, over(4)), [2, 0, 1])

    def test_anew_behind_begins(self):
        calls = (TEN, mark(0, 10), mark(0, 10), set_to(0, 0, 10), TEN, mark(0, 10), mark(0, 10))
        self.assertEqual(last(*calls, over(4)), [2, 1, 0])
