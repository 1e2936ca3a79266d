"""Point 5: undo and redo, and what becomes of the stretches."""

import unittest

from tests.calls import REDO, UNDO, ask, begins, behind, change, drop, ends, last, mark, picture, probe, set_to

TEN = begins(list(range(10)))


class NothingToBe(unittest.TestCase):
    def test_at_the_beginning(self):
        self.assertEqual(ask(UNDO, REDO), [[-7], [-7]])
        self.assertEqual(ask(TEN, UNDO, REDO), [[10], [-7], [-7]])

    def test_marks_sets_and_drops_are_not_taken_back(self):
        self.assertEqual(last(TEN, mark(0, 1), set_to(0, 1, 2), drop(0), UNDO), [-7])

    def test_all_taken_back(self):
        self.assertEqual(ask(TEN, change((0, 1, [])), UNDO, UNDO)[-2:], [[0, 10], [-7]])

    def test_all_done_again(self):
        self.assertEqual(ask(TEN, change((0, 1, [])), UNDO, REDO, REDO)[-2:], [[0, 9], [-7]])

    def test_nothing_was_taken_back(self):
        self.assertEqual(last(TEN, change((0, 1, [])), REDO), [-7])

    def test_a_refused_change_cannot_be_taken_back(self):
        self.assertEqual(last(TEN, change((11, 0, [])), UNDO), [-7])

    def test_changes_nothing(self):
        calls = (TEN, mark(0, 1), change((0, 1, [])), mark(0, 1))
        self.assertEqual(picture(behind(*calls, REDO)), picture(behind(*calls)))
        calls = calls + (UNDO,)
        self.assertEqual(picture(behind(*calls, UNDO)), picture(behind(*calls)))


class TheText(unittest.TestCase):
    def test_undo_and_redo_count(self):
        calls = (TEN, change((0, 1, [])), change((0, 2, [])), change((0, 3, [])), UNDO, UNDO, UNDO, REDO, REDO, REDO)
        counted = [[2, 7], [1, 9], [0, 10], [2, 9], [1, 7], [0, 4]]
        self.assertEqual(ask(*calls)[4:], counted)

    def test_several_told_at_once_are_taken_back_together(self):
        several = change((1, 2, [70]), (4, 0, [71, 72]), (8, 1, []), (10, 0, [73]))
        self.assertEqual(last(TEN, several, UNDO), [0, 10])
        self.assertEqual(behind(TEN, several, UNDO).content, list(range(10)))

    def test_done_again_in_order(self):
        first = change((0, 1, [70]), (5, 0, [71]))
        second = change((2, 3, []), (8, 1, [72, 73]))
        calls = (TEN, first, second)
        self.assertEqual(behind(*calls, UNDO, UNDO, REDO).content, behind(TEN, first).content)
        self.assertEqual(behind(*calls, UNDO, UNDO, REDO, REDO).content, behind(*calls).content)
        self.assertEqual(behind(*calls, UNDO, UNDO, REDO, REDO, UNDO).content, behind(TEN, first).content)

    def test_a_new_change_behind_an_undo(self):
        calls = (TEN, change((0, 1, [])), change((0, 1, [])), UNDO, change((0, 0, [70])))
        self.assertEqual(last(*calls, REDO), [-7])
        self.assertEqual(ask(*calls, UNDO, UNDO, UNDO)[-3:], [[1, 9], [0, 10], [-7]])

    def test_a_refused_change_leaves_what_can_be_done_again(self):
        calls = (TEN, change((0, 1, [])), change((0, 1, [])), UNDO, UNDO)
        for bad in (change((11, 0, [])), change((0, 0, [256])), change((0, 0, [1] * 591))):
            self.assertEqual(ask(*calls, bad, REDO, REDO)[-2:], [[1, 9], [0, 8]])

    def test_other_calls_leave_what_can_be_done_again(self):
        calls = (TEN, mark(0, 3), change((0, 1, [])), UNDO, mark(0, 1), set_to(0, 1, 2), drop(1), UNDO)
        self.assertEqual(last(*calls, REDO), [0, 9])

    def test_a_redo_leaves_the_rest_to_be_done_again(self):
        calls = (TEN, change((0, 1, [])), change((0, 1, [])), UNDO, UNDO, REDO)
        self.assertEqual(ask(*calls, REDO)[-2:], [[1, 9], [0, 8]])

    def test_none_told(self):
        self.assertEqual(ask(TEN, change(), change(), UNDO, REDO)[-2:], [[1, 10], [0, 10]])


class ThereAheadOfTheChange(unittest.TestCase):
    def test_is_as_it_was(self):
        for begin in range(11):
            for end in range(begin, 11):
                for leans in ((0, 0), (0, 1), (1, 0), (1, 1)):
                    calls = (TEN, mark(begin, end, *leans), change((1, 2, [70, 71, 72]), (4, 3, []), (9, 1, [73])))
                    self.assertEqual(ends(behind(*calls, UNDO), 0), (begin, end))

    def test_seen_by_what_vanishes(self):
        calls = (TEN, mark(3, 6, 1, 0, 1), change((2, 3, [70])), UNDO)
        self.assertEqual(probe(calls, 10), (3, 6))

    def test_vanished_by_it_comes_back(self):
        calls = (TEN, mark(3, 6, vanishes=1), change((2, 5, [])), UNDO)
        self.assertEqual(probe(calls, 10), (3, 6))
        self.assertEqual(last(*calls, set_to(0, 3, 6)), [0])

    def test_vanished_by_several_at_once_comes_back(self):
        calls = (TEN, mark(3, 6, vanishes=1), mark(8, 9, vanishes=1), change((0, 1, [7]), (3, 3, []), (8, 1, [])))
        self.assertEqual(ask(*calls, UNDO)[-2:], [[2, 6], [0, 10]])
        self.assertEqual(ends(behind(*calls, UNDO), 0), (3, 6))
        self.assertEqual(ends(behind(*calls, UNDO), 1), (8, 9))

    def test_vanished_ahead_of_it_stays_so(self):
        calls = (TEN, mark(3, 6, vanishes=1), change((3, 3, [])), change((0, 1, [])), UNDO)
        self.assertEqual(last(*calls, set_to(0, 0, 1)), [-3])
        self.assertEqual(probe(calls + (UNDO,), 10), (3, 6))

    def test_back_through_several_steps(self):
        steps = (change((0, 3, [70])), change((2, 4, [])), change((1, 0, [71, 72]), (3, 1, [])))
        for leans in ((0, 0), (0, 1), (1, 0), (1, 1)):
            calls = (TEN, mark(2, 5, *leans)) + steps
            self.assertEqual(ends(behind(*calls, UNDO), 0), ends(behind(*calls[:4]), 0))
            self.assertEqual(ends(behind(*calls, UNDO, UNDO), 0), ends(behind(*calls[:3]), 0))
            self.assertEqual(ends(behind(*calls, UNDO, UNDO, UNDO), 0), (2, 5))

    def test_set_ahead_of_it(self):
        calls = (TEN, mark(0, 1), set_to(0, 3, 5), change((2, 5, [70])), UNDO)
        self.assertEqual(ends(behind(*calls), 0), (3, 5))


class MadeSince(unittest.TestCase):
    def test_goes_with_the_text(self):
        # Back, the byte at 2 goes out and 2, 3 and 4 come in.
        calls = (TEN, change((2, 3, [70])))
        for leans, place in (((0, 0), (2, 2)), ((0, 1), (2, 5)), ((1, 0), (5, 5)), ((1, 1), (5, 5))):
            self.assertEqual(ends(behind(*calls, mark(2, 3, *leans), UNDO), 0), place)
        self.assertEqual(ends(behind(*calls, mark(1, 4), UNDO), 0), (1, 6))
        self.assertEqual(ends(behind(*calls, mark(0, 1), UNDO), 0), (0, 1))
        self.assertEqual(ends(behind(*calls, mark(4, 8), UNDO), 0), (6, 10))

    def test_by_several_told_at_once(self):
        # The text is 0 70 71 72 3 4 5 8 9; back, 70 to 72 go out for 1 and 2, and at 7 come 6 and 7.
        calls = (TEN, change((1, 2, [70, 71, 72]), (6, 2, [])))
        for told, place in (
            ((4, 7, 0, 0), (1, 6)), ((4, 7, 1, 1), (3, 8)), ((2, 3, 0, 1), (1, 3)), ((5, 9, 0, 0), (4, 10)),
            ((7, 7, 0, 1), (6, 8)), ((7, 7, 1, 0), (8, 8)), ((8, 9, 0, 0), (9, 10)), ((0, 1, 0, 0), (0, 1)),
        ):
            self.assertEqual(ends(behind(*calls, mark(*told), UNDO), 0), place)

    def test_may_vanish(self):
        calls = (TEN, change((2, 0, [70, 71])), mark(2, 4, vanishes=1), UNDO)
        self.assertEqual(last(*calls), [0, 10])
        self.assertEqual(last(*calls, set_to(0, 0, 1)), [-3])

    def test_vanished_so_it_does_not_come_back(self):
        calls = (TEN, change((2, 0, [70, 71])), mark(2, 4, 0, 1, 1), UNDO, REDO)
        self.assertEqual(last(*calls, set_to(0, 0, 1)), [-3])
        self.assertEqual(last(*calls, UNDO, set_to(0, 0, 1)), [-3])

    def test_made_between_two_changes(self):
        calls = (TEN, change((2, 3, [70])), mark(2, 3, 0, 1), change((0, 4, [])))
        self.assertEqual(ends(behind(*calls, UNDO), 0), (2, 3))
        self.assertEqual(ends(behind(*calls, UNDO, UNDO), 0), (2, 5))

    def test_vanished_by_a_later_change(self):
        calls = (TEN, change((2, 3, [70])), mark(2, 3, 0, 1, 1), change((0, 4, [])))
        self.assertEqual(ends(behind(*calls, UNDO), 0), (2, 3))
        self.assertEqual(ends(behind(*calls, UNDO, UNDO), 0), (2, 5))


class SetSince(unittest.TestCase):
    def test_goes_with_the_text(self):
        calls = (TEN, mark(0, 9, 0, 1), change((2, 3, [70])), set_to(0, 2, 3), UNDO)
        self.assertEqual(ends(behind(*calls), 0), (2, 5))

    def test_set_to_where_it_is(self):
        calls = (TEN, mark(3, 4, 0, 1), change((2, 3, [70])))
        self.assertEqual(ends(behind(*calls), 0), (2, 3))
        self.assertEqual(ends(behind(*calls, UNDO), 0), (3, 4))
        self.assertEqual(ends(behind(*calls, set_to(0, 2, 3), UNDO), 0), (2, 5))

    def test_may_vanish(self):
        calls = (TEN, mark(0, 9, vanishes=1), change((2, 0, [70, 71])), set_to(0, 2, 4), UNDO)
        self.assertEqual(last(*calls, set_to(0, 0, 1)), [-3])
        self.assertEqual(last(*calls, REDO, set_to(0, 0, 1)), [-3])

    def test_since_each_of_the_changes_ahead(self):
        calls = (TEN, mark(4, 5), change((0, 1, [])), change((0, 1, [])), set_to(0, 6, 7))
        self.assertEqual(ends(behind(*calls, UNDO), 0), (7, 8))
        self.assertEqual(ends(behind(*calls, UNDO, UNDO), 0), (8, 9))

    def test_not_since_a_later_change(self):
        calls = (TEN, mark(4, 5), change((2, 3, [70])), set_to(0, 2, 3), change((0, 8, [])))
        self.assertEqual(ends(behind(*calls, UNDO), 0), (2, 3))
        self.assertEqual(ends(behind(*calls, UNDO, UNDO), 0), (2, 2))

    def test_set_ahead_of_it_and_since(self):
        calls = (TEN, mark(0, 9), set_to(0, 3, 5), change((2, 3, [70])), set_to(0, 4, 6), UNDO)
        self.assertEqual(ends(behind(*calls), 0), (6, 8))

    def test_set_since_twice(self):
        calls = (TEN, mark(0, 9), change((2, 3, [70])), set_to(0, 3, 5), set_to(0, 4, 6), UNDO)
        self.assertEqual(ends(behind(*calls), 0), (6, 8))

    def test_another_one_is_as_it_was(self):
        calls = (TEN, mark(3, 4), mark(3, 4), change((2, 3, [])), set_to(1, 0, 1), UNDO)
        self.assertEqual(ends(behind(*calls), 0), (3, 4))
        self.assertEqual(ends(behind(*calls), 1), (0, 1))


class Dropped(unittest.TestCase):
    def test_since(self):
        calls = (TEN, mark(3, 4, vanishes=1), change((2, 3, [])), drop(0), UNDO)
        self.assertEqual(ask(*calls, drop(0), set_to(0, 0, 1))[-2:], [[-2], [-2]])
        self.assertEqual(last(*calls, REDO, drop(0)), [-2])

    def test_behind_an_undo(self):
        calls = (TEN, mark(3, 4, vanishes=1), change((2, 3, [])), UNDO, drop(0), REDO, UNDO)
        self.assertEqual(last(*calls, drop(0)), [-2])


class DoneAgain(unittest.TestCase):
    def test_just_like_a_change_that_is_told(self):
        told = change((2, 3, [70]))
        calls = (TEN, mark(3, 4, 0, 1), mark(2, 5, 1, 0, 1), told)
        self.assertEqual(picture(behind(*calls, UNDO, REDO)), picture(behind(*calls)))
        self.assertEqual(last(*calls, UNDO, REDO, set_to(1, 0, 1)), [-3])

    def test_and_taken_back_again(self):
        calls = (TEN, mark(3, 4, 0, 1), mark(2, 5, 1, 0, 1), change((2, 3, [70])), change((0, 3, [])))
        for undos in (1, 2):
            there_and_back = [UNDO] * undos + [REDO] * undos + [UNDO] * undos
            self.assertEqual(picture(behind(*calls, *there_and_back)), picture(behind(*calls, *[UNDO] * undos)))

    def test_set_between_undo_and_redo(self):
        calls = (TEN, mark(0, 9), change((2, 3, [70])), UNDO, set_to(0, 3, 4), REDO)
        self.assertEqual(ends(behind(*calls), 0), (2, 2))
        self.assertEqual(ends(behind(*calls, UNDO), 0), (3, 4))

    def test_made_between_undo_and_redo(self):
        calls = (TEN, change((2, 3, [70])), UNDO, mark(3, 4, vanishes=1), REDO)
        self.assertEqual(last(*calls, set_to(0, 0, 1)), [-3])
        self.assertEqual(ends(behind(*calls, UNDO), 0), (3, 4))

    def test_set_ahead_of_the_undo_is_not_since_the_redo(self):
        calls = (TEN, mark(0, 9), change((2, 3, [70])), set_to(0, 2, 3), UNDO)
        self.assertEqual(ends(behind(*calls), 0), (2, 2))
        self.assertEqual(ends(behind(*calls, set_to(0, 3, 4), REDO, UNDO), 0), (3, 4))

    def test_vanished_between_undo_and_redo(self):
        calls = (TEN, change((0, 0, [70])), mark(0, 1, vanishes=1), change((5, 1, [])), UNDO, UNDO, REDO, REDO)
        self.assertEqual(last(*calls, set_to(0, 0, 1)), [-3])
        self.assertEqual(last(*calls, UNDO, set_to(0, 0, 1)), [-3])
