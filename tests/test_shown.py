"""The calls view and shows."""

import unittest

from tests.asking import (ACROSS, BACK, BEYOND, CLOSE, DOWN, DOWN_SPLIT, ENTER, RIGHT, SHOWS, asked, check_refused, focus,
                          fold, goto, last, screen, text, typed, view)


class ViewTest(unittest.TestCase):
    def test_with_and_without_the_focus(self):
        before = [screen(9, 3), text(*"abcdef"), goto(5, 1), ACROSS, goto(1, 0)]
        self.assertEqual(last(*before, view(0)), [5, 1, 3, 0, 0, 0, 4, 3])
        self.assertEqual(last(*before, view(1)), [1, 0, 1, 0, 5, 0, 4, 3])
        self.assertEqual(last(*before, focus(0), view(0)), [5, 1, 3, 0, 0, 0, 4, 3])
        self.assertEqual(last(*before, focus(0), view(1)), [1, 0, 1, 0, 5, 0, 4, 3])

    def test_the_focus_stays(self):
        before = [screen(9, 3), text(*"abcdef"), ACROSS]
        self.assertEqual(asked(*before, view(0), DOWN, view(0), view(1))[-3:],
                         [[1, 0, 0, 0, 5, 0, 4, 3], [0, 0, 0, 0, 0, 0, 4, 3], [1, 0, 0, 0, 5, 0, 4, 3]])

    def test_no_such_window(self):
        for wrong in (1, 2, 11, 12, BEYOND):
            self.assertEqual(last(view(wrong)), [-2])
        self.assertEqual(last(ACROSS, view(2)), [-2])
        self.assertEqual(last(ACROSS, CLOSE, view(1)), [-2])
        self.assertEqual(last(ACROSS, focus(0), CLOSE, view(0)), [-2])
        self.assertEqual(last(ACROSS, focus(0), CLOSE, view(1)), [0, 0, 0, 0, 0, 0, 20, 6])

    def test_refusal_changes_nothing(self):
        check_refused(self, [text(*"abcdef"), goto(3, 1), ACROSS, fold(1, 3)], view(2), -2, (0, 1))

    def test_all_windows(self):
        before = [screen(20, 7), DOWN_SPLIT, ACROSS, focus(0)]
        self.assertEqual(asked(*before, view(0), view(1), view(2))[-3:],
                         [[0, 0, 0, 0, 0, 0, 20, 3], [0, 0, 0, 0, 0, 4, 9, 3], [0, 0, 0, 0, 10, 4, 10, 3]])


class ShowsTest(unittest.TestCase):
    def test_at_the_beginning(self):
        self.assertEqual(last(SHOWS), [1, 0])

    def test_after_text(self):
        self.assertEqual(last(text("ab", "", "~ "), SHOWS), [3, 2, 97, 98, 0, 2, 126, 32])
        self.assertEqual(last(text("ab"), text(""), SHOWS), [1, 0])
        self.assertEqual(last(text("ab"), text(), SHOWS), [1, 2, 97, 98])
        self.assertEqual(last(text(*["x" * 36] * 20), SHOWS), [20] + ([36] + [120] * 36) * 20)

    def test_after_type_enter_and_back(self):
        found = asked(typed("a"), SHOWS, typed("b"), SHOWS, ENTER, SHOWS, typed("c"), SHOWS, BACK, SHOWS, BACK, SHOWS)
        self.assertEqual(found[1::2], [[1, 1, 97], [1, 2, 97, 98], [2, 2, 97, 98, 0], [2, 2, 97, 98, 1, 99],
                                       [2, 2, 97, 98, 0], [1, 2, 97, 98]])

    def test_hidden_lines_too(self):
        self.assertEqual(last(text("a", "b", "c"), fold(0, 3), SHOWS), [3, 1, 97, 1, 98, 1, 99])

    def test_nothing_changes(self):
        self.assertEqual(asked(text("ab"), SHOWS, RIGHT, SHOWS)[1:],
                         [[1, 2, 97, 98], [0, 1, 0, 0, 0, 0, 20, 6], [1, 2, 97, 98]])
