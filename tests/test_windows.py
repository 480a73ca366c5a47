import unittest

from tests.asking import (ACROSS, BEYOND, CLOSE, DOWN, DOWN_SPLIT, asked, check_refused, focus, goto, last, rooms,
                          screen, text, tops)


class SplitTest(unittest.TestCase):
    def test_the_new_window_has_the_focus_and_is_the_second(self):
        self.assertEqual(last(ACROSS), [0, 0, 0, 0, 10, 0, 10, 6])
        self.assertEqual(last(DOWN_SPLIT), [0, 0, 0, 0, 0, 3, 20, 3])

    def test_halves_rounded_down(self):
        self.assertEqual(rooms((0, 1), ACROSS), [[0, 0, 9, 6], [10, 0, 10, 6]])
        self.assertEqual(rooms((0, 1), screen(21, 6), ACROSS), [[0, 0, 10, 6], [11, 0, 10, 6]])
        self.assertEqual(rooms((0, 1), DOWN_SPLIT), [[0, 0, 20, 2], [0, 3, 20, 3]])
        self.assertEqual(rooms((0, 1), screen(20, 7), DOWN_SPLIT), [[0, 0, 20, 3], [0, 4, 20, 3]])

    def test_least_sizes(self):
        self.assertEqual(rooms((0, 1), screen(7, 1), ACROSS), [[0, 0, 3, 1], [4, 0, 3, 1]])
        self.assertEqual(rooms((0, 1), screen(3, 3), DOWN_SPLIT), [[0, 0, 3, 1], [0, 2, 3, 1]])

    def test_first_part_leaves_what_the_second_needs(self):
        across = rooms((0, 1, 2, 3), ACROSS, ACROSS, ACROSS)
        self.assertEqual(across, [[0, 0, 8, 6], [9, 0, 3, 6], [13, 0, 3, 6], [17, 0, 3, 6]])
        down = rooms((0, 1, 2), screen(20, 5), DOWN_SPLIT, DOWN_SPLIT)
        self.assertEqual(down, [[0, 0, 20, 1], [0, 2, 20, 1], [0, 4, 20, 1]])

    def test_first_part_has_what_it_needs(self):
        across = rooms((0, 1, 2, 3), ACROSS, focus(0), ACROSS, ACROSS)
        self.assertEqual(across, [[0, 0, 3, 6], [12, 0, 8, 6], [4, 0, 3, 6], [8, 0, 3, 6]])
        down = rooms((0, 1, 2), DOWN_SPLIT, focus(0), DOWN_SPLIT)
        self.assertEqual(down, [[0, 0, 20, 1], [0, 4, 20, 2], [0, 2, 20, 1]])

    def test_splits_within_one_another(self):
        found = rooms((0, 1, 2, 3), screen(30, 11), ACROSS, DOWN_SPLIT, ACROSS)
        self.assertEqual(found, [[0, 0, 14, 11], [15, 0, 15, 5], [15, 6, 7, 5], [23, 6, 7, 5]])

    def test_a_window_in_the_middle_is_split(self):
        found = rooms((0, 1, 2, 3), screen(40, 6), ACROSS, ACROSS, focus(1), DOWN_SPLIT)
        self.assertEqual(found, [[0, 0, 19, 6], [20, 0, 9, 2], [30, 0, 10, 6], [20, 3, 9, 3]])

    def test_the_same_view(self):
        before = [screen(20, 6), text(*["abc"] * 12), goto(9, 2), goto(7, 1)]
        self.assertEqual(last(*before)[:4], [7, 1, 4, 0])
        self.assertEqual(last(*before, ACROSS), [7, 1, 4, 0, 10, 0, 10, 6])
        self.assertEqual(last(*before, ACROSS, focus(0)), [7, 1, 4, 0, 0, 0, 9, 6])

    def test_both_views_settle_in_their_rooms(self):
        before = [screen(20, 4), text(*["abc"] * 9), goto(3, 2), DOWN_SPLIT]
        self.assertEqual(last(*before), [3, 2, 2, 0, 0, 2, 20, 2])
        self.assertEqual(last(*before, focus(0)), [3, 2, 3, 0, 0, 0, 20, 1])

    def test_views_are_apart_after_it(self):
        before = [text(*["abc"] * 9), goto(3, 2), ACROSS, goto(8, 3)]
        self.assertEqual(asked(*before, focus(0), focus(1))[-2:],
                         [[3, 2, 0, 0, 0, 0, 9, 6], [8, 3, 3, 0, 10, 0, 10, 6]])
        before = [text(*["abc"] * 9), goto(3, 2), ACROSS, focus(0), goto(8, 3), focus(1)]
        self.assertEqual(last(*before), [3, 2, 0, 0, 10, 0, 10, 6])

    def test_numbers_are_never_given_twice(self):
        before = [ACROSS, CLOSE, ACROSS]
        self.assertEqual(asked(*before, focus(1), focus(2))[-2:], [[-2], [0, 0, 0, 0, 10, 0, 10, 6]])

    def test_a_refused_split_takes_no_number(self):
        self.assertEqual(asked(screen(6, 1), ACROSS, screen(7, 1), ACROSS, focus(2), focus(1))[1:],
                         [[-5], [0, 0, 0, 0, 0, 0, 7, 1], [0, 0, 0, 0, 4, 0, 3, 1], [-2], [0, 0, 0, 0, 4, 0, 3, 1]])

    def test_no_room(self):
        self.assertEqual(last(screen(6, 20), ACROSS), [-5])
        self.assertEqual(last(screen(40, 2), DOWN_SPLIT), [-5])
        self.assertEqual(last(screen(14, 6), ACROSS, ACROSS, ACROSS), [-5])
        self.assertEqual(last(screen(15, 6), ACROSS, ACROSS, ACROSS)[4:], [12, 0, 3, 6])
        self.assertEqual(last(screen(20, 6), DOWN_SPLIT, DOWN_SPLIT, DOWN_SPLIT), [-5])

    def test_other_windows_make_room(self):
        self.assertEqual(last(screen(11, 6), ACROSS)[4:], [6, 0, 5, 6])
        self.assertEqual(rooms((0, 1, 2), screen(11, 6), ACROSS, ACROSS), [[0, 0, 3, 6], [4, 0, 3, 6], [8, 0, 3, 6]])

    def test_twelve_windows_those_closed_too(self):
        before = [ACROSS, CLOSE] * 10
        self.assertEqual(last(*before, ACROSS, focus(11))[4:], [10, 0, 10, 6])
        self.assertEqual(last(*before, ACROSS, ACROSS), [-4])
        self.assertEqual(last(*before, ACROSS, CLOSE, DOWN_SPLIT), [-4])
        self.assertEqual(last(*before, ACROSS, ACROSS, focus(12)), [-2])

    def test_twelve_windows_at_once(self):
        before = [screen(40, 20)] + [ACROSS] * 9 + [DOWN_SPLIT] * 2
        self.assertEqual(last(*before)[4:], [37, 15, 3, 5])
        self.assertEqual(last(*before, DOWN_SPLIT), [-4])
        self.assertEqual(rooms((0, 1, 2), *before), [[0, 0, 4, 20], [5, 0, 3, 20], [9, 0, 3, 20]])

    def test_of_two_refusals_the_first_told(self):
        before = [ACROSS, CLOSE] * 11 + [screen(3, 1)]
        self.assertEqual(last(*before, ACROSS), [-4])
        self.assertEqual(last(*before[2:], ACROSS), [-5])

    def test_refusal_changes_nothing(self):
        before = [screen(9, 4), text("abc def", "b", "c", "d", "e"), goto(4, 1), ACROSS, goto(3, 1)]
        check_refused(self, before, ACROSS, -5, (0, 1, 2))
        check_refused(self, [ACROSS, CLOSE] * 10 + before[1:], ACROSS, -4, (0, 11, 12))


class CloseTest(unittest.TestCase):
    def test_the_only_one(self):
        self.assertEqual(last(CLOSE), [-6])
        self.assertEqual(asked(ACROSS, CLOSE, CLOSE)[1:], [[0, 0, 0, 0, 0, 0, 20, 6], [-6]])

    def test_the_window_beside_takes_the_place(self):
        self.assertEqual(asked(ACROSS, CLOSE, focus(1))[1:], [[0, 0, 0, 0, 0, 0, 20, 6], [-2]])
        self.assertEqual(asked(DOWN_SPLIT, focus(0), CLOSE, focus(0), focus(1))[2:],
                         [[0, 0, 0, 0, 0, 0, 20, 6], [-2], [0, 0, 0, 0, 0, 0, 20, 6]])

    def test_two_parts_beside_take_the_place(self):
        first_closed = [ACROSS, DOWN_SPLIT, focus(0), CLOSE]
        self.assertEqual(last(*first_closed)[4:], [0, 0, 20, 2])
        self.assertEqual(rooms((1, 2), *first_closed), [[0, 0, 20, 2], [0, 3, 20, 3]])
        second_closed = [ACROSS, focus(0), DOWN_SPLIT, focus(1), CLOSE]
        self.assertEqual(rooms((0, 2), *second_closed), [[0, 0, 20, 2], [0, 3, 20, 3]])

    def test_a_window_within_closes(self):
        self.assertEqual(rooms((0, 1), ACROSS, DOWN_SPLIT, CLOSE), [[0, 0, 9, 6], [10, 0, 10, 6]])
        self.assertEqual(rooms((0, 2), ACROSS, DOWN_SPLIT, focus(1), CLOSE), [[0, 0, 9, 6], [10, 0, 10, 6]])
        self.assertEqual(rooms((1, 2), ACROSS, focus(0), DOWN_SPLIT, focus(0), CLOSE), [[10, 0, 10, 6], [0, 0, 9, 6]])

    def test_the_first_window_of_all_has_the_focus(self):
        self.assertEqual(last(ACROSS, DOWN_SPLIT, CLOSE)[4:], [0, 0, 9, 6])
        marked = [text("abcd"), ACROSS, goto(0, 1), focus(0), ACROSS, goto(0, 2), focus(0), CLOSE]
        self.assertEqual(last(*marked), [0, 2, 0, 0, 0, 0, 9, 6])
        nested = [text("abcd"), ACROSS, goto(0, 1), DOWN_SPLIT, goto(0, 2), focus(0), CLOSE]
        self.assertEqual(last(*nested), [0, 1, 0, 0, 0, 0, 20, 2])

    def test_views_settle_in_their_new_rooms(self):
        words = [screen(11, 3), text("aaaa bbbb cccc dddd eeee"), ACROSS, goto(0, 22)]
        self.assertEqual(last(*words), [0, 22, 0, 2, 6, 0, 5, 3])
        self.assertEqual(last(*words, focus(0), CLOSE), [0, 22, 0, 2, 0, 0, 11, 3])

    def test_refusal_changes_nothing(self):
        before = [text("abc def", "b", "c", "d", "e"), goto(4, 1)]
        check_refused(self, before, CLOSE, -6, (0, 1))
        check_refused(self, before + [ACROSS, focus(0), CLOSE, goto(1, 1)], CLOSE, -6, (0, 1, 2))


class FocusTest(unittest.TestCase):
    def test_a_window_that_is_there(self):
        self.assertEqual(asked(ACROSS, focus(0), focus(1), focus(1))[1:],
                         [[0, 0, 0, 0, 0, 0, 9, 6], [0, 0, 0, 0, 10, 0, 10, 6], [0, 0, 0, 0, 10, 0, 10, 6]])

    def test_calls_are_about_the_window_that_has_it(self):
        before = [text("abcd", "e"), ACROSS, focus(0), goto(0, 3), focus(1), DOWN]
        self.assertEqual(asked(*before, focus(0), focus(1))[-2:],
                         [[0, 3, 0, 0, 0, 0, 9, 6], [1, 0, 0, 0, 10, 0, 10, 6]])

    def test_no_such_window(self):
        for wrong in (1, 2, 12, BEYOND):
            self.assertEqual(last(focus(wrong)), [-2])
        self.assertEqual(last(ACROSS, focus(2)), [-2])
        self.assertEqual(last(ACROSS, CLOSE, focus(1)), [-2])
        self.assertEqual(last(ACROSS, focus(0), CLOSE, focus(0)), [-2])

    def test_refusal_changes_nothing(self):
        before = [text("abc def", "b", "c", "d", "e"), goto(4, 1), ACROSS, goto(3, 1)]
        check_refused(self, before, focus(2), -2, (0, 1))
        check_refused(self, before + [CLOSE], focus(1), -2, (0, 1))


class GotoTest(unittest.TestCase):
    def test_edges_of_line_and_place(self):
        lines = text("abc", "", "de")
        for place in ((0, 0), (0, 3), (1, 0), (2, 0), (2, 2)):
            self.assertEqual(last(lines, goto(*place)), [place[0], place[1], 0, 0, 0, 0, 20, 6])
        for wrong in ((0, 4), (1, 1), (2, 3), (3, 0), (0, BEYOND), (BEYOND, 0), (BEYOND, BEYOND)):
            self.assertEqual(last(lines, goto(*wrong)), [-1])

    def test_top_follows_the_point(self):
        lines = [text(*["a"] * 10), screen(20, 3)]
        gone = [goto(2, 0), goto(3, 0), goto(9, 1), goto(7, 0), goto(6, 0), goto(8, 0), goto(9, 0), goto(0, 0)]
        self.assertEqual(tops(*lines, *gone)[2:],
                         [(0, 0), (1, 0), (7, 0), (7, 0), (6, 0), (6, 0), (7, 0), (0, 0)])

    def test_top_within_a_line(self):
        lines = [text("aaaa bbbb cccc", "d", "eeee ffff"), screen(5, 2)]
        gone = [goto(0, 9), goto(0, 10), goto(1, 0), goto(2, 5), goto(0, 5), goto(0, 4), goto(2, 0), goto(0, 14)]
        self.assertEqual(tops(*lines, *gone)[2:],
                         [(0, 0), (0, 1), (0, 2), (2, 0), (0, 1), (0, 0), (1, 0), (0, 2)])

    def test_refusal_changes_nothing(self):
        before = [screen(20, 3), text("abc def", "b", "c", "d", "e"), goto(4, 1), ACROSS, goto(3, 1)]
        check_refused(self, before, goto(5, 0), -1, (0, 1))
        check_refused(self, before, goto(0, 8), -1, (0, 1))
