import unittest

from tests.asking import (ACROSS, BEYOND, DOWN, DRAW, RIGHT, UP, asked, check_refused, focus, fold, goto, last, picture,
                          screen, scroll_back, scroll_on, text, views)

TWENTY = text(*"abcdefghijklmnopqrst")


def scrolled(*calls):
    """The point and the top after the calls, on a screen that is 4 high."""
    return tuple(last(screen(9, 4), TWENTY, *calls)[:4])


class ScrollTest(unittest.TestCase):
    def test_on(self):
        self.assertEqual(scrolled(goto(3, 1), scroll_on(1)), (3, 1, 1, 0))
        self.assertEqual(scrolled(goto(3, 1), scroll_on(3)), (3, 1, 3, 0))
        self.assertEqual(last(screen(9, 4), TWENTY, goto(3, 1), scroll_on(2)), [3, 1, 2, 0, 0, 0, 9, 4])

    def test_back(self):
        self.assertEqual(scrolled(goto(9, 1), UP, UP, UP), (6, 1, 6, 0))
        self.assertEqual(scrolled(goto(9, 1), UP, UP, UP, scroll_back(1)), (6, 1, 5, 0))
        self.assertEqual(scrolled(goto(9, 1), UP, UP, UP, scroll_back(3)), (6, 1, 3, 0))

    def test_none(self):
        self.assertEqual(scrolled(goto(9, 1), scroll_on(0)), (9, 1, 6, 0))
        self.assertEqual(scrolled(goto(9, 1), scroll_back(0)), (9, 1, 6, 0))

    def test_more_than_there_are(self):
        self.assertEqual(scrolled(goto(3, 1), scroll_on(100)), (19, 0, 19, 0))
        self.assertEqual(scrolled(goto(3, 1), scroll_on(19)), (19, 0, 19, 0))
        self.assertEqual(scrolled(goto(3, 1), scroll_on(20)), (19, 0, 19, 0))
        self.assertEqual(scrolled(goto(9, 1), scroll_back(100)), (3, 0, 0, 0))
        self.assertEqual(scrolled(goto(9, 1), scroll_back(6)), (3, 0, 0, 0))
        self.assertEqual(scrolled(goto(9, 1), scroll_back(7)), (3, 0, 0, 0))
        self.assertEqual(picture(9, screen(9, 4), TWENTY, scroll_on(100)), ["t        "] + [" " * 9] * 3)

    def test_at_most_100(self):
        self.assertEqual(last(scroll_on(100)), [0, 0, 0, 0, 0, 0, 20, 6])
        self.assertEqual(last(scroll_back(100)), [0, 0, 0, 0, 0, 0, 20, 6])
        for wrong in (101, 200, BEYOND):
            self.assertEqual(last(scroll_on(wrong)), [-1])
            self.assertEqual(last(scroll_back(wrong)), [-1])

    def test_the_point_above_the_top_then(self):
        self.assertEqual(scrolled(goto(3, 1), scroll_on(4)), (4, 0, 4, 0))
        self.assertEqual(scrolled(goto(3, 1), scroll_on(9)), (9, 0, 9, 0))

    def test_the_point_below_the_window_then(self):
        self.assertEqual(scrolled(goto(9, 1), scroll_back(1)), (8, 0, 5, 0))
        self.assertEqual(scrolled(goto(9, 1), scroll_back(4)), (5, 0, 2, 0))

    def test_rows_of_long_lines(self):
        before = [screen(5, 2), text("aaaa bbbb cccc dddd eeee", "f"), goto(0, 7)]
        self.assertEqual(last(*before)[:4], [0, 7, 0, 0])
        self.assertEqual(last(*before, scroll_on(1))[:4], [0, 7, 0, 1])
        self.assertEqual(last(*before, scroll_on(3))[:4], [0, 15, 0, 3])
        self.assertEqual(last(*before, scroll_on(5))[:4], [1, 0, 1, 0])
        self.assertEqual(last(*before, scroll_on(5), scroll_back(2))[:4], [0, 20, 0, 3])
        self.assertEqual(last(*before, scroll_on(5), scroll_back(3))[:4], [0, 15, 0, 2])

    def test_hidden_rows_are_not_counted(self):
        self.assertEqual(scrolled(fold(2, 9), scroll_on(4)), (10, 0, 10, 0))
        self.assertEqual(scrolled(fold(2, 9), goto(12, 1), scroll_back(2)), (10, 0, 1, 0))
        self.assertEqual(scrolled(fold(2, 20), scroll_on(9)), (2, 0, 2, 0))

    def test_a_row_whose_beginning_is_a_fold(self):
        self.assertEqual(scrolled(fold(2, 9), goto(1, 1), scroll_on(2)), (2, 0, 2, 0))

    def test_it_stays_scrolled(self):
        self.assertEqual(scrolled(goto(3, 1), scroll_on(2), DOWN), (4, 1, 2, 0))
        self.assertEqual(scrolled(goto(3, 1), scroll_on(100), RIGHT, UP), (18, 1, 18, 0))
        self.assertEqual(scrolled(goto(3, 1), scroll_on(2), DRAW, focus(0)), (3, 1, 2, 0))

    def test_another_window_stays(self):
        before = [screen(9, 4), TWENTY, goto(9, 1), ACROSS, goto(7, 1)]
        self.assertEqual(views((0, 1), *before), [(9, 1, 6, 0), (7, 1, 6, 0)])
        self.assertEqual(views((0, 1), *before, scroll_on(5)), [(9, 1, 6, 0), (11, 0, 11, 0)])
        self.assertEqual(views((0, 1), *before, scroll_back(4)), [(9, 1, 6, 0), (5, 0, 2, 0)])
        self.assertEqual(views((0, 1), *before, focus(0), scroll_on(2)), [(9, 1, 8, 0), (7, 1, 6, 0)])

    def test_the_windows_own_width_and_height(self):
        before = [screen(11, 5), text("aaaa bbbb cccc dddd", "e", "f"), ACROSS, [3, 0]]
        self.assertEqual(asked(*before, goto(0, 17), scroll_on(1))[-2:],
                         [[0, 17, 0, 2, 6, 3, 5, 2], [0, 17, 0, 3, 6, 3, 5, 2]])
        self.assertEqual(last(*before, goto(0, 17), scroll_back(1)), [0, 10, 0, 1, 6, 3, 5, 2])

    def test_refusal_changes_nothing(self):
        before = [screen(9, 4), TWENTY, fold(3, 5), goto(9, 1), ACROSS, goto(7, 1)]
        check_refused(self, before, scroll_on(101), -1, (0, 1))
        check_refused(self, before, scroll_back(101), -1, (0, 1))
