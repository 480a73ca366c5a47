"""The calls fold and unfold, and what the other calls do where there are folds."""

import unittest

from tests.asking import (ACROSS, BEYOND, CLOSE, DOWN, DOWN_SPLIT, DRAW, FRAME, LEFT, RIGHT, SHOWS, UNFOLD, UP, asked,
                          check_refused, focus, fold, goto, last, machine, picture, points, screen, scroll_on, text,
                          views)

LETTERS = text(*"abcdefghijklmnopqrst")


def seen(*calls):
    """The lines of LETTERS that are seen after the calls: a sign each, and a + behind those that begin a fold."""
    return [row.strip() for row in picture(3, screen(3, 20), LETTERS, *calls) if row.strip()]


class FoldTest(unittest.TestCase):
    def test_all_but_the_first_line_is_hidden(self):
        self.assertEqual(seen(fold(1, 4))[:4], ["a", "b+", "e", "f"])
        self.assertEqual(seen(fold(1, 3))[:4], ["a", "b+", "d", "e"])
        self.assertEqual(seen(fold(18, 20))[-2:], ["r", "s+"])
        self.assertEqual(seen(fold(0, 20)), ["a+"])
        self.assertEqual(last(LETTERS, fold(1, 4)), [0, 0, 0, 0, 0, 0, 20, 6])

    def test_fewer_than_two_lines(self):
        for first, end in ((0, 1), (0, 0), (5, 6), (5, 5), (5, 4), (5, 0), (19, 20), (BEYOND, 0), (BEYOND, BEYOND)):
            self.assertEqual(last(LETTERS, fold(first, end)), [-1])
        self.assertEqual(last(LETTERS, fold(5, 7))[:2], [0, 0])

    def test_beyond_the_texts_end(self):
        for first, end in ((19, 21), (0, 21), (20, 22), (0, BEYOND), (BEYOND - 2, BEYOND)):
            self.assertEqual(last(LETTERS, fold(first, end)), [-1])
        self.assertEqual(last(text("a", "b"), fold(0, 3)), [-1])
        self.assertEqual(last(text("a", "b"), fold(0, 2))[:2], [0, 0])
        self.assertEqual(last(fold(0, 2)), [-1])

    def test_one_that_is_there(self):
        self.assertEqual(last(LETTERS, fold(3, 6), fold(3, 6)), [-4])
        self.assertEqual(last(LETTERS, fold(3, 6), fold(8, 9), fold(8, 11), fold(3, 6)), [-4])

    def test_one_that_crosses_another(self):
        for first, end in ((0, 5), (0, 4), (2, 5), (2, 4), (5, 8), (4, 8), (4, 7)):
            self.assertEqual(last(LETTERS, fold(3, 6), fold(first, end)), [-4], (first, end))
        self.assertEqual(last(LETTERS, fold(3, 6), fold(10, 14), fold(8, 12)), [-4])
        self.assertEqual(last(LETTERS, fold(10, 14), fold(3, 6), fold(8, 12)), [-4])

    def test_one_within(self):
        self.assertEqual(seen(fold(2, 8), fold(4, 6))[:4], ["a", "b", "c+", "i"])
        self.assertEqual(seen(fold(2, 8), fold(4, 6), goto(2, 0), UNFOLD)[2:6], ["c", "d", "e+", "g"])

    def test_one_around(self):
        self.assertEqual(seen(fold(4, 6), fold(2, 8))[:4], ["a", "b", "c+", "i"])
        self.assertEqual(seen(fold(4, 6), fold(2, 8), goto(2, 0), UNFOLD)[2:6], ["c", "d", "e+", "g"])

    def test_apart(self):
        self.assertEqual(seen(fold(4, 6), fold(1, 3))[:5], ["a", "b+", "d", "e+", "g"])
        self.assertEqual(seen(fold(4, 6), fold(6, 8))[4:7], ["e+", "g+", "i"])
        self.assertEqual(seen(fold(4, 6), fold(2, 4))[2:5], ["c+", "e+", "g"])

    def test_a_shared_beginning(self):
        for folds in ([fold(2, 8), fold(2, 5)], [fold(2, 5), fold(2, 8)]):
            self.assertEqual(seen(*folds)[1:4], ["b", "c+", "i"])
            self.assertEqual(seen(*folds, goto(6, 0))[1:5], ["b", "c+", "f", "g"])

    def test_a_shared_end(self):
        for folds in ([fold(2, 8), fold(5, 8)], [fold(5, 8), fold(2, 8)]):
            self.assertEqual(seen(*folds)[1:4], ["b", "c+", "i"])
            self.assertEqual(seen(*folds, goto(2, 0), UNFOLD)[1:7], ["b", "c", "d", "e", "f+", "i"])

    def test_eight_folds(self):
        eight = [fold(2 * number, 2 * number + 2) for number in range(8)]
        self.assertEqual(last(LETTERS, *eight)[:2], [0, 0])
        self.assertEqual(last(LETTERS, *eight, fold(16, 18)), [-5])
        self.assertEqual(last(LETTERS, *eight, UNFOLD, fold(16, 18))[:2], [0, 0])
        self.assertEqual(seen(*eight)[6:10], ["m+", "o+", "q", "r"])

    def test_of_several_refusals_the_first_told(self):
        eight = [fold(2 * number, 2 * number + 2) for number in range(8)]
        self.assertEqual(last(LETTERS, *eight, fold(16, 17)), [-1])
        self.assertEqual(last(LETTERS, *eight, fold(15, 21)), [-1])
        self.assertEqual(last(LETTERS, *eight, fold(4, 6)), [-4])
        self.assertEqual(last(LETTERS, *eight, fold(13, 17)), [-4])
        self.assertEqual(last(LETTERS, *eight, fold(12, 20)), [-5])
        self.assertEqual(last(text("a", "b"), fold(0, 2), fold(1, 3)), [-1])

    def test_points_in_lines_that_are_hidden_now(self):
        before = [screen(40, 20), text("a", "bc", "def", "ghij", "k"), goto(3, 4), ACROSS, goto(1, 2), ACROSS, goto(4, 1),
                  ACROSS, goto(2, 1)]
        self.assertEqual(views(range(4), *before, fold(1, 4)), [(1, 2, 0, 0), (1, 2, 0, 0), (4, 1, 0, 0), (1, 1, 0, 0)])
        self.assertEqual(last(*before, fold(1, 4))[:4], [1, 1, 0, 0])
        self.assertEqual(views(range(4), *before, fold(3, 5), fold(0, 5)), [(0, 1, 0, 0)] * 4)

    def test_points_do_not_go_back_when_it_is_opened(self):
        before = [LETTERS, goto(5, 1), ACROSS, goto(3, 0), fold(3, 7), UNFOLD]
        self.assertEqual(views((0, 1), *before), [(3, 1, 0, 0), (3, 0, 0, 0)])

    def test_tops_in_lines_that_are_hidden_now(self):
        before = [screen(11, 4), LETTERS, goto(9, 0), ACROSS, goto(8, 0), scroll_on(1)]
        self.assertEqual(views((0, 1), *before), [(9, 0, 6, 0), (8, 0, 7, 0)])
        self.assertEqual(views((0, 1), *before, fold(5, 8)), [(9, 0, 5, 0), (8, 0, 5, 0)])
        self.assertEqual(views((0, 1), *before, fold(6, 8)), [(9, 0, 6, 0), (8, 0, 6, 0)])
        self.assertEqual(views((0, 1), *before, fold(0, 20)), [(0, 0, 0, 0), (0, 0, 0, 0)])

    def test_top_row_of_the_folds_first_line_and_of_a_hidden_one(self):
        hidden = [screen(5, 5), text("a", "b" * 12, "c" * 12, "d", "e"), goto(3, 0), scroll_on(2)]
        self.assertEqual(last(*hidden)[:4], [3, 0, 2, 1])
        self.assertEqual(last(*hidden, fold(1, 3))[:4], [3, 0, 1, 0])
        first = [screen(5, 3), text("a", "b" * 12, "c", "d", "e"), goto(3, 0)]
        self.assertEqual(last(*first)[:4], [3, 0, 1, 2])
        self.assertEqual(last(*first, fold(1, 3))[:4], [3, 0, 1, 2])

    def test_refusals_change_nothing(self):
        before = [LETTERS, fold(3, 6), goto(4, 1), fold(5, 8), ACROSS, goto(9, 0)]
        check_refused(self, before, fold(1, 2), -1, (0, 1))
        check_refused(self, before, fold(1, 21), -1, (0, 1))
        check_refused(self, before, fold(4, 6), -4, (0, 1))
        check_refused(self, before, fold(5, 8), -4, (0, 1))
        eight = [fold(2 * number + 2, 2 * number + 4) for number in range(8)]
        check_refused(self, [LETTERS, *eight, goto(12, 1)], fold(0, 2), -5)


class UnfoldTest(unittest.TestCase):
    def test_no_fold_has_the_line(self):
        self.assertEqual(last(UNFOLD), [-6])
        for line in (0, 1, 2, 6, 7):
            self.assertEqual(last(LETTERS, fold(3, 6), goto(line, 0), UNFOLD), [-6])

    def test_the_folds_first_line(self):
        self.assertEqual(seen(fold(3, 6), goto(3, 1), UNFOLD), list("abcdefghijklmnopqrst"))
        self.assertEqual(last(LETTERS, fold(3, 6), goto(3, 1), UNFOLD)[:4], [3, 1, 0, 0])

    def test_the_folds_last_line(self):
        self.assertEqual(asked(LETTERS, goto(5, 1), fold(3, 6), UNFOLD, UNFOLD)[2:],
                         [[3, 1, 0, 0, 0, 0, 20, 6], [3, 1, 0, 0, 0, 0, 20, 6], [-6]])
        self.assertEqual(last(LETTERS, fold(3, 6), goto(5, 0), UNFOLD), [-6])

    def test_several_folds(self):
        folds = [fold(3, 9), fold(3, 6), fold(3, 5), fold(7, 9), fold(10, 12), fold(0, 2)]
        self.assertEqual(seen(*folds)[:5], ["a+", "c", "d+", "j", "k+"])
        self.assertEqual(seen(*folds, goto(3, 0), UNFOLD)[:10], ["a+", "c", "d", "e", "f", "g", "h+", "j", "k+", "m"])

    def test_other_folds_stay(self):
        self.assertEqual(seen(fold(3, 6), fold(8, 10), goto(8, 0), UNFOLD)[2:8], ["c", "d+", "g", "h", "i", "j"])

    def test_other_windows_stay(self):
        before = [LETTERS, goto(15, 1), ACROSS, fold(3, 6), goto(3, 0)]
        self.assertEqual(views((0,), *before), [(15, 1, 10, 0)])
        self.assertEqual(views((0,), *before, UNFOLD), [(15, 1, 10, 0)])

    def test_refusal_changes_nothing(self):
        check_refused(self, [LETTERS, fold(3, 6), goto(2, 1), ACROSS, goto(6, 1)], UNFOLD, -6, (0, 1))


class CallsWithFoldsTest(unittest.TestCase):
    def test_goto_opens_the_folds_that_hide_the_line(self):
        folds = [fold(1, 8), fold(3, 6), fold(10, 12)]
        self.assertEqual(seen(*folds, goto(2, 0))[:6], ["a", "b", "c", "d+", "g", "h"])
        self.assertEqual(seen(*folds, goto(4, 0))[:6], ["a", "b", "c", "d", "e", "f"])
        self.assertEqual(seen(*folds, goto(3, 0))[:6], ["a", "b", "c", "d+", "g", "h"])
        self.assertEqual(seen(*folds, goto(1, 0))[:4], ["a", "b+", "i", "j"])
        self.assertEqual(seen(*folds, goto(8, 0))[:4], ["a", "b+", "i", "j"])
        self.assertEqual(seen(*folds, goto(11, 0))[:7], ["a", "b+", "i", "j", "k", "l", "m"])

    def test_a_refused_goto_opens_none(self):
        check_refused(self, [LETTERS, fold(3, 6), ACROSS], goto(4, 2), -1, (0, 1))
        check_refused(self, [LETTERS, fold(3, 6), ACROSS], goto(20, 0), -1, (0, 1))

    def test_up_and_down_pass_hidden_lines(self):
        before = [text("abc", "def", "g", "hij"), fold(1, 3), goto(1, 2)]
        self.assertEqual(points(*before, DOWN, UP, UP, UP)[-4:], [(3, 2), (1, 2), (0, 2), -6])
        self.assertEqual(points(text("abc", "d", "e"), fold(0, 3), DOWN)[-1], -6)

    def test_left_and_right_pass_hidden_lines(self):
        before = [text("abc", "def", "g", "hij"), fold(1, 3), goto(1, 3)]
        self.assertEqual(points(*before, RIGHT, LEFT, LEFT)[-3:], [(3, 0), (1, 3), (1, 2)])
        self.assertEqual(points(text("a", "b", "c"), fold(1, 3), goto(1, 1), RIGHT)[-1], -6)
        self.assertEqual(points(text("a", "b", "c", "d"), fold(0, 3), goto(3, 0), LEFT, RIGHT)[-2:], [(0, 1), (3, 0)])

    def test_split_and_close(self):
        before = [screen(9, 5), LETTERS, fold(1, 18), goto(18, 1)]
        self.assertEqual(last(*before)[:4], [18, 1, 0, 0])
        self.assertEqual(views((0, 1), *before, DOWN_SPLIT), [(18, 1, 1, 0), (18, 1, 1, 0)])
        self.assertEqual(picture(9, *before, DOWN_SPLIT), ["b+       ", "s        ", "-" * 9, "b+       ", "s        "])
        self.assertEqual(last(*before, DOWN_SPLIT, CLOSE)[:4], [18, 1, 1, 0])
        self.assertEqual(picture(9, *before, DOWN_SPLIT, CLOSE)[:3], ["b+       ", "s        ", "t        "])

    def test_folds_are_every_windows(self):
        before = [screen(9, 3), LETTERS, ACROSS, fold(1, 18)]
        self.assertEqual(picture(9, *before), ["a   |a   ", "b+  |b+  ", "s   |s   "])
        self.assertEqual(picture(9, *before, focus(0), goto(4, 0)), ["c   |a   ", "d   |b   ", "e   |c   "])

    def test_text_has_no_folds(self):
        self.assertEqual(seen(fold(1, 4), fold(7, 9), goto(9, 1), LETTERS), list("abcdefghijklmnopqrst"))
        self.assertEqual(last(LETTERS, fold(0, 20), LETTERS, UNFOLD), [-6])
        eight = [fold(2 * number, 2 * number + 2) for number in range(8)]
        self.assertEqual(last(LETTERS, *eight, LETTERS, fold(3, 5))[:2], [0, 0])
        before = [LETTERS, goto(9, 1), fold(0, 3), ACROSS, goto(12, 1)]
        self.assertEqual(views((0, 1), *before, LETTERS), [(0, 0, 0, 0)] * 2)

    def test_a_refused_text_opens_none(self):
        check_refused(self, [LETTERS, fold(3, 6), goto(9, 1)], text(), -1)
        check_refused(self, [LETTERS, fold(3, 6), goto(9, 1)], text("a", [31]), -1)

    def test_screen_keeps_folds(self):
        before = [screen(9, 5), LETTERS, fold(1, 18), goto(18, 1)]
        self.assertEqual(last(*before, screen(8, 2)), [18, 1, 1, 0, 0, 0, 8, 2])
        self.assertEqual(picture(8, *before, screen(8, 2)), ["b+      ", "s       "])
        check_refused(self, before, screen(41, 5), -1)
        check_refused(self, before, screen(2, 5), -5)

    def test_calls_that_only_ask_change_nothing(self):
        before = [LETTERS, fold(3, 6), goto(7, 1), ACROSS, goto(3, 1)]
        asking = [FRAME, SHOWS, machine((0,)), DRAW, FRAME]
        self.assertEqual(views((0, 1), *before, *asking), views((0, 1), *before))
        self.assertEqual(picture(20, *before, *asking), picture(20, *before))
