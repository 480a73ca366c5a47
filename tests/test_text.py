import unittest

from foldedwindows.screen import call_text
from foldedwindows.state import Screen
from tests.asking import (ACROSS, BEYOND, DOWN, RIGHT, asked, check_refused, focus, goto, last, machine, points,
                          screen, text)

BEGINNING = [0, 0, 0, 0, 0, 0, 20, 6]


class TextTest(unittest.TestCase):
    def test_screen_begins_with_one_line_without_bytes(self):
        self.assertEqual(last(focus(0)), BEGINNING)
        self.assertEqual(points(goto(0, 1), goto(1, 0), RIGHT, DOWN), [-1, -1, -6, -6])

    def test_answers_the_view(self):
        self.assertEqual(last(text("ab", "c")), BEGINNING)

    def test_lines_and_their_bytes_are_the_text(self):
        gone = points(text("ab", "", "c"), goto(0, 2), goto(0, 3), goto(1, 0), goto(1, 1), goto(2, 1), goto(3, 0))
        self.assertEqual(gone, [(0, 0), (0, 2), -1, (1, 0), -1, (2, 1), -1])

    def test_one_to_twenty_lines(self):
        self.assertEqual(last(text()), [-1])
        self.assertEqual(last(text("")), BEGINNING)
        self.assertEqual(last(text(*["a"] * 20)), BEGINNING)
        self.assertEqual(last(text(*["a"] * 20), goto(19, 1))[:2], [19, 1])
        self.assertEqual(last(text(*[""] * 21)), [-1])

    def test_lines_of_up_to_60_bytes(self):
        self.assertEqual(last(text("a" * 60)), BEGINNING)
        self.assertEqual(last(text("a" * 60), goto(0, 60))[:2], [0, 60])
        self.assertEqual(last(text("a" * 61)), [-1])
        self.assertEqual(last(text("", "b", "a" * 61)), [-1])

    def test_bytes_from_32_to_126(self):
        self.assertEqual(last(text([32, 126])), BEGINNING)
        for wrong in (0, 31, 127, 255, BEYOND):
            self.assertEqual(last(text([wrong])), [-1])
            self.assertEqual(last(text("ab", [65, wrong, 66], "c")), [-1])

    def test_points_and_tops_of_all_windows_begin_anew(self):
        before = [screen(20, 3), text("a", "b", "c", "d", "e"), goto(4, 1), ACROSS, goto(3, 1)]
        self.assertEqual(last(*before, focus(0))[:4], [4, 1, 2, 0])
        after = asked(*before, text("a", "b", "c", "d", "e"), focus(0), focus(1))[-3:]
        self.assertEqual(after[0], [0, 0, 0, 0, 10, 0, 10, 3])
        self.assertEqual(after[1], [0, 0, 0, 0, 0, 0, 9, 3])
        self.assertEqual(after[2], [0, 0, 0, 0, 10, 0, 10, 3])

    def test_keeps_windows_focus_and_machine_and_drops_folds(self):
        kept = Screen()
        kept.machine = [(0, [])]
        kept.folds = [(0, 2)]
        call_text(kept, [1, 65, 1, 66])
        self.assertEqual(kept.lines, [[65], [66]])
        self.assertEqual(kept.folds, [])
        self.assertEqual(kept.machine, [(0, [])])

    def test_refusal_changes_nothing(self):
        before = [machine((0,)), screen(20, 3), text("abc def", "b", "c", "d", "e"), goto(4, 1), ACROSS, goto(3, 1)]
        check_refused(self, before, text(), -1, (0, 1))
        check_refused(self, before, text("a", "\n"), -1, (0, 1))
        kept = Screen()
        kept.folds = [(0, 2)]
        kept.lines = [[65], [66]]
        self.assertEqual(call_text(kept, [1, 31]), [-1])
        self.assertEqual((kept.lines, kept.folds), ([[65], [66]], [(0, 2)]))
