import unittest

from foldedwindows.screen import call_screen
from foldedwindows.state import Screen
from tests.asking import ACROSS, BEYOND, DOWN_SPLIT, asked, check_refused, focus, goto, last, rooms, screen, text


class ScreenTest(unittest.TestCase):
    def test_answers_the_view(self):
        self.assertEqual(last(screen(33, 12)), [0, 0, 0, 0, 0, 0, 33, 12])

    def test_sizes_allowed(self):
        self.assertEqual(last(screen(40, 20))[4:], [0, 0, 40, 20])
        self.assertEqual(last(screen(3, 1))[4:], [0, 0, 3, 1])
        for size in ((0, 6), (41, 6), (20, 0), (20, 21), (0, 0), (BEYOND, 6), (20, BEYOND)):
            self.assertEqual(last(screen(*size)), [-1])

    def test_one_wide_is_a_screen_but_no_window_fits(self):
        self.assertEqual(last(screen(1, 1)), [-5])
        self.assertEqual(last(screen(2, 20)), [-5])

    def test_windows_across_need_more_width(self):
        self.assertEqual(last(ACROSS, screen(6, 20)), [-5])
        self.assertEqual(last(ACROSS, screen(7, 1))[4:], [4, 0, 3, 1])

    def test_windows_down_need_more_height(self):
        self.assertEqual(last(DOWN_SPLIT, screen(40, 2)), [-5])
        self.assertEqual(last(DOWN_SPLIT, screen(3, 3))[4:], [0, 2, 3, 1])

    def test_the_part_that_needs_more_counts(self):
        mixed = [ACROSS, DOWN_SPLIT]
        self.assertEqual(last(*mixed, screen(7, 3))[4:], [4, 2, 3, 1])
        self.assertEqual(last(*mixed, screen(6, 3)), [-5])
        self.assertEqual(last(*mixed, screen(7, 2)), [-5])
        mixed = [DOWN_SPLIT, focus(0), ACROSS]
        self.assertEqual(last(*mixed, screen(7, 3))[4:], [4, 0, 3, 1])
        self.assertEqual(last(*mixed, screen(6, 3)), [-5])
        self.assertEqual(last(*mixed, screen(7, 2)), [-5])

    def test_of_two_refusals_the_first_told(self):
        self.assertEqual(last(ACROSS, screen(0, 6)), [-1])
        self.assertEqual(last(ACROSS, screen(3, 21)), [-1])
        self.assertEqual(last(DOWN_SPLIT, screen(41, 1)), [-1])

    def test_rooms_are_shared_anew(self):
        self.assertEqual(rooms((0, 1), ACROSS, screen(40, 9)), [[0, 0, 19, 9], [20, 0, 20, 9]])
        self.assertEqual(rooms((0, 1), DOWN_SPLIT, screen(8, 9)), [[0, 0, 8, 4], [0, 5, 8, 4]])

    def test_top_row_is_at_most_the_lines_last_at_the_new_width(self):
        words = [text("aaaa bbbb cccc dddd eeee"), screen(5, 2), goto(0, 22)]
        self.assertEqual(last(*words), [0, 22, 0, 3, 0, 0, 5, 2])
        self.assertEqual(last(*words, screen(20, 2)), [0, 22, 0, 1, 0, 0, 20, 2])
        self.assertEqual(last(*words, screen(40, 2)), [0, 22, 0, 0, 0, 0, 40, 2])

    def test_top_moves_when_the_height_no_longer_has_the_point(self):
        lines = [text(*["a"] * 10), screen(9, 8), goto(7, 0)]
        self.assertEqual(last(*lines), [7, 0, 0, 0, 0, 0, 9, 8])
        self.assertEqual(last(*lines, screen(9, 3)), [7, 0, 5, 0, 0, 0, 9, 3])
        self.assertEqual(last(*lines, screen(9, 3), screen(9, 20)), [7, 0, 5, 0, 0, 0, 9, 20])

    def test_views_of_windows_without_the_focus_settle_too(self):
        calls = [text(*["a"] * 10), goto(5, 0), ACROSS, goto(0, 0), screen(20, 2), focus(0)]
        self.assertEqual(asked(*calls)[-2:], [[0, 0, 0, 0, 10, 0, 10, 2], [5, 0, 4, 0, 0, 0, 9, 2]])

    def test_nothing_was_drawn(self):
        kept = Screen()
        self.assertEqual(kept.drawn, [])
        kept.drawn = [(32, 0)]
        self.assertEqual(call_screen(kept, [0, 6]), [-1])
        self.assertEqual(call_screen(kept, [1, 6]), [-5])
        self.assertEqual(kept.drawn, [(32, 0)])
        call_screen(kept, [20, 6])
        self.assertEqual(kept.drawn, [])

    def test_refusal_changes_nothing(self):
        before = [text("abc def", "b", "c", "d", "e"), goto(4, 1), ACROSS, goto(3, 1)]
        check_refused(self, before, screen(41, 3), -1, (0, 1))
        check_refused(self, before, screen(6, 3), -5, (0, 1))
