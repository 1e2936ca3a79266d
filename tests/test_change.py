"""Point 4: change, and where stretches come by it."""

import unittest

from tests.calls import (
    HUGE, REDO, UNDO, ask, begins, behind, change, ends, last, mark, over, picture, probe, set_to,
)

TEN = begins(list(range(10)))
MARKED = (TEN, mark(2, 8, vanishes=1), mark(5, 5), change((0, 0, [50])), UNDO)


class ChangeAnswers(unittest.TestCase):
    def test_bytes_go_out_and_come_in(self):
        self.assertEqual(last(TEN, change((3, 4, [70, 71]))), [0, 8])
        self.assertEqual(behind(TEN, change((3, 4, [70, 71]))).content, [0, 1, 2, 70, 71, 7, 8, 9])

    def test_at_the_text_s_beginning_and_end(self):
        self.assertEqual(behind(TEN, change((0, 1, [70]))).content, [70] + list(range(1, 10)))
        self.assertEqual(behind(TEN, change((10, 0, [70]))).content, list(range(10)) + [70])
        self.assertEqual(last(TEN, change((0, 10, []))), [0, 0])

    def test_none_told_is_a_change(self):
        self.assertEqual(last(TEN, change()), [0, 10])
        self.assertEqual(last(TEN, change(), UNDO), [0, 10])
        self.assertEqual(ask(TEN, change((0, 1, [])), UNDO, change(), REDO)[-2:], [[0, 10], [-7]])
        self.assertEqual(ask(change()), [[0, 0]])

    def test_nothing_out_and_nothing_in(self):
        calls = (TEN, mark(3, 7, 1, 0), change((3, 0, []), (7, 0, [])))
        self.assertEqual(last(*calls), [0, 10])
        self.assertEqual(ends(behind(*calls), 0), (3, 7))

    def test_several_are_all_of_the_old_text(self):
        several = change((1, 2, [70]), (4, 0, [71, 72]), (8, 1, []))
        self.assertEqual(last(TEN, several), [0, 10])
        self.assertEqual(behind(TEN, several).content, [0, 70, 3, 71, 72, 4, 5, 6, 7, 9])

    def test_highest_byte(self):
        self.assertEqual(last(TEN, change((0, 0, [255]))), [0, 11])

    def test_most_bytes(self):
        self.assertEqual(last(TEN, change((0, 0, [1] * 590))), [0, 600])
        self.assertEqual(last(TEN, change((0, 0, [1] * 591))), [-6])
        self.assertEqual(last(TEN, change((0, 10, [1] * 600))), [0, 600])
        self.assertEqual(last(TEN, change((0, 10, [1] * 601))), [-6])
        self.assertEqual(last(TEN, change((0, 0, [1] * 600), (1, 9, []))), [-6])
        self.assertEqual(last(TEN, change((0, 0, [1] * 599), (1, 9, []))), [0, 600])
        self.assertEqual(last(TEN, change((0, 0, [1] * 300), (5, 0, [1] * 291))), [-6])


class ChangeRefused(unittest.TestCase):
    def refused(self, number, *changes):
        call = change(*changes)
        self.assertEqual(last(*MARKED, call), [number])
        self.assertEqual(picture(behind(*MARKED, call)), picture(behind(*MARKED)))

    def test_not_in_order(self):
        self.refused(-1, (5, 1, []), (2, 1, []))
        self.refused(-1, (0, 0, [1]), (8, 1, []), (4, 1, []))
        self.refused(-1, (2, 5, []), (4, 1, []))

    def test_touching(self):
        self.refused(-1, (2, 2, []), (4, 1, []))
        self.refused(-1, (2, 0, [1]), (2, 0, [1]))
        self.refused(-1, (2, 0, [1]), (2, 1, []))
        self.refused(-1, (0, 1, []), (2, 1, []), (3, 1, []))

    def test_just_one_byte_between(self):
        self.assertEqual(last(TEN, change((2, 2, []), (5, 1, []))), [0, 7])
        self.assertEqual(last(TEN, change((2, 0, [1]), (3, 0, [1]))), [0, 12])
        self.assertEqual(behind(TEN, change((8, 1, []), (10, 0, [70]))).content, list(range(8)) + [9, 70])

    def test_beyond_the_text(self):
        self.refused(-1, (11, 0, []))
        self.refused(-1, (10, 1, []))
        self.refused(-1, (0, 11, []))
        self.refused(-1, (HUGE, 0, []))
        self.refused(-1, (0, HUGE, []))
        self.refused(-1, (HUGE, HUGE, []))
        self.refused(-1, (0, 0, [1, 2, 3]), (11, 0, []))

    def test_a_byte_too_high(self):
        self.refused(-1, (0, 0, [256]))
        self.refused(-1, (0, 0, [1]), (5, 0, [2, HUGE]))
        self.refused(-1, (0, 0, [256]), (5, 0, [2]))

    def test_too_many_bytes(self):
        self.refused(-6, (0, 0, [1] * 591))

    def test_of_several_the_one_told_first(self):
        self.refused(-1, (0, 0, [256] * 591))
        self.refused(-1, (11, 0, [1] * 591))
        self.refused(-1, (2, 0, [1] * 300), (2, 0, [1] * 300))
        self.refused(-1, (5, 0, [1] * 591), (4, 0, [256]))

    def test_what_can_be_done_again_stays(self):
        for bad in (change((11, 0, [])), change((0, 0, [256])), change((0, 0, [1] * 591))):
            self.assertEqual(last(*MARKED, bad, REDO), [0, 11])


class Ends(unittest.TestCase):
    """Of a change at 4 with 3 bytes out: an end below 4, at it, within, at 7, beyond."""

    def check(self, coming, at_lean_0, at_lean_1, moved):
        call = change((4, 3, coming))
        for lean, within in ((0, at_lean_0), (1, at_lean_1)):
            for end, place in ((3, 3), (4, within), (5, within), (7, within), (8, 8 + moved), (0, 0)):
                begin_seen = behind(TEN, mark(end, 10, lean, 1), call)
                self.assertEqual(ends(begin_seen, 0), (place, 10 + moved))
                end_seen = behind(TEN, mark(0, end, 0, lean), call)
                self.assertEqual(ends(end_seen, 0), (0, place))

    def test_fewer_come_in(self):
        self.check([70, 71], 4, 6, -1)

    def test_none_comes_in(self):
        self.check([], 4, 4, -3)

    def test_more_come_in(self):
        self.check([70, 71, 72, 73, 74], 4, 9, 2)

    def test_just_as_many_come_in(self):
        self.check([70, 71, 72], 4, 7, 0)

    def test_typed_at_both_ends(self):
        typed = change((3, 0, [70]), (6, 0, [71]))
        for leans, place in (((0, 0), (3, 7)), ((0, 1), (3, 8)), ((1, 0), (4, 7)), ((1, 1), (4, 8))):
            self.assertEqual(ends(behind(TEN, mark(3, 6, *leans), typed), 0), place)

    def test_seen_by_what_vanishes(self):
        typed = change((3, 0, [70]), (6, 0, [71]))
        for leans, place in (((0, 0), (3, 7)), ((0, 1), (3, 8)), ((1, 0), (4, 7)), ((1, 1), (4, 8))):
            self.assertEqual(probe((TEN, mark(3, 6, *leans, 1), typed), 12), place)

    def test_at_the_text_s_ends(self):
        calls = (TEN, mark(0, 10, 1, 0), mark(0, 10, 0, 1), change((0, 0, [70]), (10, 0, [71, 72])))
        self.assertEqual(ends(behind(*calls), 0), (1, 11))
        self.assertEqual(ends(behind(*calls), 1), (0, 13))

    def test_one_byte_between_and_an_end_there(self):
        several = change((2, 2, [70, 71, 72]), (5, 1, []))
        for leans, place in (((0, 0), (2, 6)), ((1, 1), (5, 6)), ((0, 1), (2, 6)), ((1, 0), (5, 6))):
            self.assertEqual(ends(behind(TEN, mark(4, 5, *leans), several), 0), place)

    def test_the_last_is_done_first(self):
        # Done first to last, the end at 5 would be taken for one within the second change.
        several = change((0, 0, [70, 71]), (6, 2, []))
        self.assertEqual(ends(behind(TEN, mark(5, 9, 0, 1), several), 0), (7, 9))
        several = change((0, 2, []), (4, 2, [70]))
        self.assertEqual(ends(behind(TEN, mark(3, 7, 1, 0), several), 0), (1, 4))


class EndsThatCross(unittest.TestCase):
    def test_to_is_moved_up(self):
        self.assertEqual(ends(behind(TEN, mark(4, 4, 1, 0), change((4, 0, [70, 71]))), 0), (6, 6))
        self.assertEqual(ends(behind(TEN, mark(5, 6, 1, 0), change((4, 3, [70, 71]))), 0), (6, 6))

    def test_with_a_change_ahead_of_it(self):
        several = change((0, 1, [80, 81, 82]), (4, 0, [70, 71]))
        self.assertEqual(ends(behind(TEN, mark(4, 4, 1, 0), several), 0), (8, 8))

    def test_leaning_apart_it_covers_what_comes_in(self):
        self.assertEqual(ends(behind(TEN, mark(4, 4, 0, 1), change((4, 0, [70, 71]))), 0), (4, 6))

    def test_one_that_vanishes_has_vanished(self):
        calls = (TEN, mark(4, 6, 1, 0, 1), change((4, 2, [70, 71])))
        self.assertEqual(last(*calls), [1, 10])
        self.assertIsNone(ends(behind(*calls), 0))
        self.assertEqual(last(*calls, set_to(0, 0, 1)), [-3])


class Vanishing(unittest.TestCase):
    def test_when_all_that_it_covers_goes(self):
        self.assertEqual(last(TEN, mark(4, 6, vanishes=1), change((4, 2, []))), [1, 8])
        self.assertEqual(last(TEN, mark(4, 6, vanishes=1), change((3, 4, [70]))), [1, 7])
        self.assertEqual(last(TEN, mark(4, 6, 1, 1, 1), change((3, 4, [70]))), [1, 7])

    def test_not_while_a_byte_stays(self):
        self.assertEqual(last(TEN, mark(4, 6, vanishes=1), change((4, 1, []))), [0, 9])
        self.assertEqual(last(TEN, mark(4, 6, vanishes=1), change((5, 5, []))), [0, 5])

    def test_not_where_it_leans_over_what_comes_in(self):
        calls = (TEN, mark(4, 6, 0, 1, 1), change((3, 4, [70])))
        self.assertEqual(last(*calls), [0, 7])
        self.assertEqual(ends(behind(*calls), 0), (3, 4))

    def test_not_one_that_does_not_vanish(self):
        calls = (TEN, mark(4, 6), change((4, 2, [])))
        self.assertEqual(last(*calls), [0, 8])
        self.assertEqual(ends(behind(*calls), 0), (4, 4))
        self.assertEqual(last(*calls, set_to(0, 4, 5)), [0])

    def test_how_many(self):
        marks = (mark(4, 5, vanishes=1), mark(5, 6, vanishes=1), mark(4, 6), mark(6, 7, vanishes=1))
        self.assertEqual(last(TEN, *marks, change((4, 2, []))), [2, 8])
        self.assertEqual(last(TEN, *marks, change((4, 1, []), (6, 1, []))), [2, 8])

    def test_by_several_changes_at_once(self):
        self.assertEqual(last(TEN, mark(4, 7, vanishes=1), change((4, 1, []), (6, 1, []))), [0, 8])
        self.assertEqual(last(TEN, mark(6, 7, vanishes=1), change((0, 2, []), (6, 1, []))), [1, 7])

    def test_counted_once(self):
        calls = (TEN, mark(4, 6, vanishes=1), change((4, 2, [])), change((4, 2, [])))
        self.assertEqual(ask(*calls)[-2:], [[1, 8], [0, 6]])

    def test_is_not_moved_any_more(self):
        calls = (TEN, mark(4, 6, 0, 1, 1), change((4, 2, [])), change((4, 0, [70, 71])))
        self.assertEqual(last(*calls, set_to(0, 4, 6)), [-3])
        self.assertEqual(last(*calls, change((4, 2, []))), [0, 8])


class BytesThatStay(unittest.TestCase):
    def test_are_covered_by_just_the_same_stretches(self):
        size = 4
        for begin in range(size + 1):
            for end in range(begin, size + 1):
                for kind in range(8):
                    for place in range(size + 1):
                        for out in range(size - place + 1):
                            for come in range(3):
                                self.check(size, (begin, end), kind, (place, out, come))

    def check(self, size, stretch, kind, told):
        begin, end = stretch
        place, out, come = told
        vanishes = kind // 4
        if vanishes and begin == end:
            return
        calls = (
            begins(list(range(size))),
            mark(begin, end, kind % 2, kind // 2 % 2, vanishes),
            change((place, out, [100] * come)),
        )
        for at, byte in enumerate(behind(*calls).content):
            if byte < 100:
                self.assertEqual(last(*calls, over(at)), [1, 0] if begin <= byte < end else [0])
