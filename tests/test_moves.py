import unittest

from tests.asking import ACROSS, DOWN, LEFT, RIGHT, UP, check_refused, focus, goto, last, points, screen, text, tops


class RowMoveTest(unittest.TestCase):
    def test_across_rows_and_lines(self):
        # Rows: "aaaa ", "bbbb ", "cc", "dd"
        before = [text("aaaa bbbb cc", "dd"), screen(5, 6), goto(0, 3)]
        self.assertEqual(points(*before, DOWN, DOWN, DOWN, DOWN)[3:], [(0, 8), (0, 12), (1, 2), -6])
        self.assertEqual(points(*before, goto(1, 1), UP, UP, UP, UP)[4:], [(0, 11), (0, 6), (0, 1), -6])
        self.assertEqual(points(*before, goto(0, 12), UP, DOWN)[4:], [(0, 7), (0, 12)])

    def test_a_shorter_row(self):
        before = [text("abcdef", "gh", "", "ijkl")]
        self.assertEqual(points(*before, goto(0, 5), DOWN, DOWN, DOWN)[2:], [(1, 2), (2, 0), (3, 0)])
        self.assertEqual(points(*before, goto(3, 4), UP, UP)[2:], [(2, 0), (1, 0)])

    def test_as_long_a_row(self):
        before = [text("abc", "def")]
        self.assertEqual(points(*before, goto(0, 3), DOWN, UP)[2:], [(1, 3), (0, 3)])
        self.assertEqual(points(*before, goto(0, 0), DOWN, UP)[2:], [(1, 0), (0, 0)])

    def test_a_row_that_is_not_its_lines_last(self):
        # Rows: "aaaaa", "bb ", "cccc"
        before = [text("aaaaabb cccc"), screen(5, 6)]
        self.assertEqual(points(*before, goto(0, 4), DOWN, DOWN)[3:], [(0, 7), (0, 10)])
        self.assertEqual(points(*before, goto(0, 12), UP, UP)[3:], [(0, 7), (0, 2)])
        self.assertEqual(points(*before, goto(0, 2), DOWN)[3:], [(0, 7)])
        self.assertEqual(points(*before, goto(0, 1), DOWN)[3:], [(0, 6)])

    def test_rows_with_blanks_beyond_the_width(self):
        # Rows: "aaaaa        " (its line's last), "bbbbb   ", "c"
        before = [text("aaaaa        ", "bbbbb   c"), screen(5, 6)]
        self.assertEqual(points(*before, goto(0, 13), DOWN, UP)[3:], [(1, 7), (0, 7)])
        self.assertEqual(points(*before, goto(0, 6), DOWN, DOWN, UP)[3:], [(1, 6), (1, 9), (1, 1)])
        self.assertEqual(points(*before, goto(1, 7), UP)[3:], [(0, 7)])

    def test_a_row_of_one_byte_that_is_not_the_last(self):
        # Rows: "abc", " ", "defgh", "i"
        before = [text("abc", " defghi"), screen(5, 6)]
        self.assertEqual(points(*before, goto(0, 3), DOWN, DOWN, UP)[3:], [(1, 0), (1, 1), (1, 0)])
        self.assertEqual(points(*before, goto(1, 5), UP, UP)[3:], [(1, 0), (0, 0)])

    def test_no_such_row(self):
        self.assertEqual(points(UP, DOWN), [-6, -6])
        self.assertEqual(points(text("abc"), goto(0, 2), UP, DOWN)[2:], [-6, -6])
        self.assertEqual(points(text("a", "b"), UP, DOWN, DOWN)[1:], [-6, (1, 0), -6])

    def test_rows_are_those_of_the_focus_width(self):
        before = [text("aaaa bbbb cccc"), screen(11, 6), ACROSS, goto(0, 3)]
        self.assertEqual(points(*before, DOWN)[-1], (0, 8))
        self.assertEqual(points(*before, screen(16, 6), DOWN)[-1], (0, 8))
        self.assertEqual(points(*before, screen(28, 6), DOWN)[-1], -6)

    def test_top_follows(self):
        before = [text("aaaa bbbb cc", "dd", "ee"), screen(5, 2)]
        found = tops(*before, DOWN, DOWN, DOWN, DOWN, UP, UP, UP, UP)
        self.assertEqual(found[2:], [(0, 0), (0, 1), (0, 2), (1, 0), (1, 0), (0, 2), (0, 1), (0, 0)])

    def test_answers_the_view(self):
        before = [text("abc", "def"), ACROSS, goto(0, 2)]
        self.assertEqual(last(*before, DOWN), [1, 2, 0, 0, 10, 0, 10, 6])
        self.assertEqual(last(*before, DOWN, UP), [0, 2, 0, 0, 10, 0, 10, 6])

    def test_refusal_changes_nothing(self):
        before = [screen(20, 3), text("abc def", "b", "c", "d", "e"), goto(4, 1), ACROSS]
        check_refused(self, before + [goto(0, 4)], UP, -6, (0, 1))
        check_refused(self, before, DOWN, -6, (0, 1))


class PlaceMoveTest(unittest.TestCase):
    def test_within_a_line(self):
        self.assertEqual(points(text("abc"), RIGHT, RIGHT, RIGHT, LEFT, LEFT, LEFT)[1:],
                         [(0, 1), (0, 2), (0, 3), (0, 2), (0, 1), (0, 0)])

    def test_across_lines(self):
        before = [text("ab", "", "c")]
        self.assertEqual(points(*before, goto(0, 2), RIGHT, RIGHT, RIGHT, RIGHT)[2:], [(1, 0), (2, 0), (2, 1), -6])
        self.assertEqual(points(*before, goto(2, 0), LEFT, LEFT, LEFT, LEFT, LEFT)[2:],
                         [(1, 0), (0, 2), (0, 1), (0, 0), -6])

    def test_across_rows_of_a_line(self):
        before = [text("aaaa bbbb"), screen(5, 1), goto(0, 4)]
        self.assertEqual(points(*before, RIGHT, LEFT)[3:], [(0, 5), (0, 4)])
        self.assertEqual(tops(*before, RIGHT, LEFT)[3:], [(0, 1), (0, 0)])

    def test_through_blanks_beyond_the_width(self):
        before = [text("aaaaa   b"), screen(5, 1), goto(0, 5)]
        self.assertEqual(points(*before, RIGHT, RIGHT, RIGHT, LEFT)[3:], [(0, 6), (0, 7), (0, 8), (0, 7)])
        self.assertEqual(tops(*before, RIGHT, RIGHT, RIGHT, LEFT)[3:], [(0, 0), (0, 0), (0, 1), (0, 0)])

    def test_no_such_place(self):
        self.assertEqual(points(LEFT, RIGHT), [-6, -6])
        self.assertEqual(points(text("a", "b"), LEFT, goto(1, 1), RIGHT)[1:], [-6, (1, 1), -6])

    def test_top_follows(self):
        before = [text("a", "b", "c"), screen(5, 1), goto(1, 1)]
        self.assertEqual(tops(*before, RIGHT, LEFT, LEFT, LEFT)[3:], [(2, 0), (1, 0), (1, 0), (0, 0)])

    def test_answers_the_view(self):
        before = [text("abc", "def"), ACROSS, goto(0, 3), focus(0), focus(1)]
        self.assertEqual(last(*before, RIGHT), [1, 0, 0, 0, 10, 0, 10, 6])
        self.assertEqual(last(*before, RIGHT, LEFT), [0, 3, 0, 0, 10, 0, 10, 6])

    def test_refusal_changes_nothing(self):
        before = [screen(20, 3), text("abc def", "b", "c", "d", "e"), goto(4, 1), ACROSS]
        check_refused(self, before, RIGHT, -6, (0, 1))
        check_refused(self, before + [goto(0, 0)], LEFT, -6, (0, 1))
