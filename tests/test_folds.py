"""Folds as they are kept: what the calls do when there are some."""

import unittest

from foldedwindows.changes import join_line, part_line
from foldedwindows.folds import folds_not_hiding, joined_folds, parted_folds, seen_line, seen_lines, stand_together
from foldedwindows.layout import Room
from foldedwindows.screen import call_down, call_goto, call_left, call_right, call_up, settled_answer
from foldedwindows.state import Screen
from foldedwindows.views import View, settle_view


def folded(line_count, folds):
    kept = Screen()
    kept.lines = [[65, 65] for number in range(line_count)]
    kept.folds = folds
    return kept


class FoldsTest(unittest.TestCase):
    def test_all_but_the_first_line_is_hidden(self):
        self.assertEqual(seen_lines([], 3), [0, 1, 2])
        self.assertEqual(seen_lines([(1, 4)], 6), [0, 1, 4, 5])
        self.assertEqual(seen_lines([(1, 6), (2, 4)], 6), [0, 1])
        self.assertEqual(seen_lines([(0, 2), (2, 4)], 5), [0, 2, 4])

    def test_the_line_seen_for_a_hidden_one(self):
        self.assertEqual([seen_line([(1, 4)], line) for line in range(5)], [0, 1, 1, 1, 4])
        for folds in ([(1, 6), (3, 6)], [(3, 6), (1, 6)]):
            self.assertEqual([seen_line(folds, line) for line in range(7)], [0, 1, 1, 1, 1, 1, 6])

    def test_opened_are_those_that_hide_the_line(self):
        folds = [(0, 9), (2, 5), (3, 5), (6, 8)]
        self.assertEqual(folds_not_hiding(folds, 0), folds)
        self.assertEqual(folds_not_hiding(folds, 3), [(3, 5), (6, 8)])
        self.assertEqual(folds_not_hiding(folds, 5), [(2, 5), (3, 5), (6, 8)])


    def test_within_around_or_apart(self):
        for other in ((3, 7), (2, 7), (3, 8), (2, 8), (4, 6), (3, 6), (4, 7), (0, 3), (0, 2), (7, 9), (8, 10)):
            self.assertTrue(stand_together((3, 7), other), other)
            self.assertTrue(stand_together(other, (3, 7)), other)
        for other in ((2, 4), (2, 6), (6, 8), (4, 8), (0, 5)):
            self.assertFalse(stand_together((3, 7), other), other)
            self.assertFalse(stand_together(other, (3, 7)), other)


class FoldsAfterChangesTest(unittest.TestCase):
    """The line that is changed is always seen when there is a call; what is told of folds around it holds anyway."""

    def test_parted(self):
        self.assertEqual(parted_folds([(0, 2), (0, 3), (1, 4), (3, 5), (4, 6), (0, 9)], 3),
                         [(0, 2), (0, 3), (1, 5), (3, 6), (5, 7), (0, 10)])
        self.assertEqual(parted_folds([], 0), [])

    def test_joined(self):
        self.assertEqual(joined_folds([(0, 2), (0, 3), (1, 4), (3, 5), (4, 6), (0, 9)], 3),
                         [(0, 2), (0, 3), (1, 3), (2, 4), (3, 5), (0, 8)])

    def test_a_fold_with_fewer_than_two_lines_goes(self):
        self.assertEqual(joined_folds([(2, 4), (0, 9)], 3), [(0, 8)])
        self.assertEqual(joined_folds([(2, 5), (1, 4)], 3), [(2, 4), (1, 3)])

    def test_of_alike_ones_one_stays(self):
        self.assertEqual(joined_folds([(2, 6), (3, 6)], 3), [(2, 5)])
        self.assertEqual(joined_folds([(3, 6), (0, 9), (2, 6)], 3), [(2, 5), (0, 8)])
        self.assertEqual(joined_folds([(1, 4), (1, 3)], 3), [(1, 3)])

    def test_parted_within_a_fold(self):
        kept = folded(8, [(1, 6), (4, 6)])
        kept.views[0].line = 3
        part_line(kept)
        self.assertEqual(kept.folds, [(1, 7), (5, 7)])

    def test_folds_that_hide_the_line_before_are_opened_first(self):
        kept = folded(8, [(0, 3), (0, 6), (2, 6), (3, 6)])
        kept.views[0].line = 3
        join_line(kept)
        self.assertEqual(kept.folds, [(2, 5)])


class CallsWithFoldsTest(unittest.TestCase):
    def test_goto_opens_folds_that_hide_the_line(self):
        kept = folded(8, [(1, 6), (3, 5)])
        self.assertEqual(call_goto(kept, [4, 1])[:2], [4, 1])
        self.assertEqual(kept.folds, [])
        kept = folded(8, [(1, 6), (3, 5)])
        self.assertEqual(call_goto(kept, [3, 1])[:2], [3, 1])
        self.assertEqual(kept.folds, [(3, 5)])
        kept = folded(8, [(1, 6), (3, 5)])
        self.assertEqual(call_goto(kept, [4, 3]), [-1])
        self.assertEqual(kept.folds, [(1, 6), (3, 5)])

    def test_moves_pass_hidden_lines(self):
        kept = folded(8, [(1, 6), (3, 5)])
        call_goto(kept, [1, 2])
        self.assertEqual(call_right(kept, [])[:2], [6, 0])
        self.assertEqual(call_left(kept, [])[:2], [1, 2])
        self.assertEqual(call_down(kept, [])[:2], [6, 2])
        self.assertEqual(call_up(kept, [])[:2], [1, 2])

    def test_no_place_behind_a_fold_at_the_end(self):
        kept = folded(4, [(1, 4)])
        call_goto(kept, [1, 2])
        self.assertEqual(call_right(kept, []), [-6])
        self.assertEqual(call_down(kept, []), [-6])


class SettledTest(unittest.TestCase):
    def settled(self, view, lines, folds, height):
        settle_view(view, lines, folds, Room(0, 0, 5, height))
        return (view.line, view.place, view.top_line, view.top_row)

    def test_point_goes_to_the_line_seen_for_it(self):
        lines = [[65], [65], [65, 65, 65], [65]]
        self.assertEqual(self.settled(View(2, 3, 0, 0), lines, [(1, 3)], 6), (1, 1, 0, 0))

    def test_top_goes_to_row_0_of_another_line(self):
        lines = [[65], [65] * 20, [65] * 20, [65], [65]]
        self.assertEqual(self.settled(View(3, 0, 2, 2), lines, [(1, 3)], 6), (3, 0, 1, 0))
        self.assertEqual(self.settled(View(3, 0, 1, 2), lines, [(1, 3)], 6), (3, 0, 1, 2))
        self.assertEqual(self.settled(View(3, 0, 1, 7), lines, [(1, 3)], 6), (3, 0, 1, 3))

    def test_fewer_lines(self):
        lines = [[65], [65] * 20]
        self.assertEqual(self.settled(View(5, 7, 4, 3), lines, [], 6), (1, 7, 1, 0))
        self.assertEqual(self.settled(View(5, 7, 4, 3), lines, [(0, 2)], 6), (0, 1, 0, 0))

    def test_hidden_rows_are_not_counted(self):
        kept = folded(20, [(1, 12)])
        self.assertEqual(call_goto(kept, [14, 0])[:4], [14, 0, 0, 0])
        self.assertEqual(call_goto(kept, [17, 0])[:4], [17, 0, 12, 0])
        self.assertEqual(settled_answer(kept)[:4], [17, 0, 12, 0])
