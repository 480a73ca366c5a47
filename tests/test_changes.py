import unittest

from tests.asking import (ACROSS, BACK, BEYOND, DOWN_SPLIT, ENTER, FRAME, LEFT, UNFOLD, asked, bytes_of, check_refused,
                          focus, fold, goto, last, lines_after, picture, points, screen, scroll_on, text, typed, view,
                          views)


def with_points(places, before=()):
    """Windows side by side on a screen that is 40 wide, their points at the places; the last one has the focus."""
    calls = [screen(40, 6), *before, goto(*places[0])]
    for place in places[1:]:
        calls += [ACROSS, goto(*place)]
    return calls


def scrolled(place, rows):
    """Two windows side by side: the first one's point at a place, its top so many rows on; the second has the focus."""
    return [ACROSS, focus(0), goto(*place), scroll_on(rows), focus(1)]


def points_after(count, *calls):
    return [found[:2] for found in views(range(count), *calls)]


class TypeTest(unittest.TestCase):
    def test_bytes_from_32_to_126(self):
        self.assertEqual(last(typed(31)), [-1])
        self.assertEqual(last(typed(32)), [0, 1, 0, 0, 0, 0, 20, 6])
        self.assertEqual(last(typed(126)), [0, 1, 0, 0, 0, 0, 20, 6])
        for wrong in (127, 0, 10, 128, 255, 288, BEYOND):
            self.assertEqual(last(typed(wrong)), [-1])
        self.assertEqual(lines_after(typed(32), typed(126), typed(31), typed(127)), [" ~"])

    def test_stands_at_the_point(self):
        before = [text("abc", "def")]
        self.assertEqual(lines_after(*before, goto(1, 0), typed("x")), ["abc", "xdef"])
        self.assertEqual(lines_after(*before, goto(1, 2), typed("x")), ["abc", "dexf"])
        self.assertEqual(lines_after(*before, goto(0, 3), typed("x")), ["abcx", "def"])
        self.assertEqual(points(*before, goto(1, 2), typed("x"), typed("y"))[-2:], [(1, 3), (1, 4)])
        self.assertEqual(lines_after(typed("h"), typed("i"), LEFT, typed("e")), ["hei"])

    def test_a_line_of_60(self):
        self.assertEqual(points(text("a" * 59), goto(0, 59), typed("b"), typed("c"))[-2:], [(0, 60), -5])
        self.assertEqual(lines_after(text("a" * 59), goto(0, 59), typed("b"), typed("c")), ["a" * 59 + "b"])
        self.assertEqual(points(text("a" * 60, "b"), typed("c")), [(0, 0), -5])
        self.assertEqual(points(text("a" * 60, "b"), goto(1, 0), typed("c"))[-1], (1, 1))

    def test_of_two_refusals_the_first_told(self):
        self.assertEqual(last(text("a" * 60), typed(127)), [-1])
        self.assertEqual(last(text("a" * 60), typed(31)), [-1])

    def test_other_points_of_the_line(self):
        before = with_points([(0, 1), (0, 2), (0, 3), (0, 4), (0, 2)], [text("abcd", "efgh")])
        self.assertEqual(points_after(5, *before, typed("x")), [(0, 1), (0, 2), (0, 4), (0, 5), (0, 3)])

    def test_points_of_other_lines(self):
        before = with_points([(0, 3), (0, 4), (2, 3), (2, 4), (1, 2)], [text("abcd", "efgh", "ijkl")])
        self.assertEqual(points_after(5, *before, typed("x")), [(0, 3), (0, 4), (2, 3), (2, 4), (1, 3)])

    def test_a_row_more(self):
        before = [screen(5, 2), text("aaaaa", "b"), goto(0, 5)]
        self.assertEqual(last(*before), [0, 5, 0, 0, 0, 0, 5, 2])
        self.assertEqual(picture(5, *before, typed("c")), ["aaaaa", "c    "])
        self.assertEqual(last(*before, typed("c")), [0, 6, 0, 0, 0, 0, 5, 2])
        self.assertEqual(last(screen(5, 1), *before[1:], typed("c")), [0, 6, 0, 1, 0, 0, 5, 1])

    def test_a_row_more_in_another_window(self):
        before = [screen(11, 3), text("aaaaa", "b", "c", "d"), goto(2, 0), ACROSS, goto(0, 5)]
        self.assertEqual(views((0, 1), *before), [(2, 0, 0, 0), (0, 5, 0, 0)])
        self.assertEqual(views((0, 1), *before, typed("x")), [(2, 0, 0, 1), (0, 6, 0, 0)])
        self.assertEqual(views((0, 1), *before, LEFT, BACK, typed("x")), [(2, 0, 0, 0), (0, 4, 0, 0)])

    def test_other_windows_stay(self):
        before = [screen(11, 3), text(*["aaaaa"] * 9), goto(8, 2), ACROSS, goto(2, 5)]
        self.assertEqual(views((0,), *before), [(8, 2, 6, 0)])
        self.assertEqual(views((0,), *before, typed("x"), typed("y")), [(8, 2, 6, 0)])
        within = [screen(11, 2), text("aaaaaaaaaaaa", "b"), goto(1, 0), ACROSS, goto(0, 0)]
        self.assertEqual(views((0,), *within), [(1, 0, 0, 2)])
        self.assertEqual(views((0,), *within, typed("x"), typed("y"), typed("z")), [(1, 0, 0, 2)])

    def test_a_folds_first_line(self):
        before = [screen(6, 3), text("ab", "c", "d"), fold(0, 2), goto(0, 1)]
        self.assertEqual(picture(6, *before, typed("x")), ["axb+  ", "d     ", "      "])

    def test_refusal_changes_nothing(self):
        before = [text("a" * 60, "b", "c"), goto(0, 30), ACROSS, fold(1, 3)]
        check_refused(self, before, typed("x"), -5, (0, 1))
        check_refused(self, before, typed(127), -1, (0, 1))


class EnterTest(unittest.TestCase):
    def test_a_line_goes_into_two(self):
        before = [text("abc", "def", "ghi")]
        for place, halves in ((0, ["", "def"]), (1, ["d", "ef"]), (3, ["def", ""])):
            self.assertEqual(lines_after(*before, goto(1, place), ENTER), ["abc"] + halves + ["ghi"])
            self.assertEqual(last(*before, goto(1, place), ENTER), [2, 0, 0, 0, 0, 0, 20, 6])
        self.assertEqual(lines_after(ENTER, ENTER), ["", "", ""])

    def test_twenty_lines(self):
        self.assertEqual(points(text(*["ab"] * 19), goto(18, 1), ENTER, ENTER)[-2:], [(19, 0), -5])
        self.assertEqual(lines_after(text(*["ab"] * 19), goto(18, 1), ENTER, ENTER), ["ab"] * 18 + ["a", "b"])
        self.assertEqual(last(text(*["ab"] * 20), ENTER), [-5])

    def test_other_points(self):
        lines = [text("abcd", "efgh", "ijkl")]
        before = with_points([(1, 1), (1, 2), (1, 3), (1, 4), (1, 2)], lines)
        self.assertEqual(points_after(5, *before, ENTER), [(1, 1), (1, 2), (2, 1), (2, 2), (2, 0)])
        before = with_points([(0, 3), (2, 1), (2, 4), (1, 2)], lines)
        self.assertEqual(points_after(4, *before, ENTER), [(0, 3), (3, 1), (3, 4), (2, 0)])
        before = with_points([(1, 0), (1, 1), (1, 4), (1, 0)], lines)
        self.assertEqual(points_after(4, *before, ENTER), [(1, 0), (2, 1), (2, 4), (2, 0)])

    def test_tops_behind_go_along(self):
        before = [screen(11, 2), text(*["ab"] * 9), goto(6, 1), ACROSS, goto(2, 1)]
        self.assertEqual(views((0,), *before), [(6, 1, 5, 0)])
        self.assertEqual(views((0,), *before, ENTER), [(7, 1, 6, 0)])
        self.assertEqual(views((0,), *before, goto(5, 0), ENTER), [(7, 1, 6, 0)])
        self.assertEqual(views((0,), *before, goto(4, 2), ENTER), [(7, 1, 6, 0)])
        higher = [screen(11, 5), text(*["ab"] * 9), *scrolled((6, 1), 3), goto(2, 1)]
        self.assertEqual(views((0,), *higher), [(6, 1, 5, 0)])
        self.assertEqual(views((0,), *higher, ENTER), [(7, 1, 6, 0)])
        self.assertEqual(views((0,), *higher, goto(5, 0), ENTER), [(7, 1, 5, 0)])

    def test_top_row_of_a_line_behind_stays(self):
        before = [screen(11, 2), text("ab", "ccccccccccccc", "d"), goto(2, 0), ACROSS, goto(0, 1)]
        self.assertEqual(views((0,), *before), [(2, 0, 1, 2)])
        self.assertEqual(views((0,), *before, ENTER), [(3, 0, 2, 2)])

    def test_top_of_the_line_stays_at_the_first(self):
        before = [screen(11, 4), text("aaaaaaaaaaaa"), *scrolled((0, 10), 2), goto(0, 3)]
        self.assertEqual(views((0,), *before), [(0, 10, 0, 2)])
        self.assertEqual(views((0, 1), *before, ENTER), [(1, 7, 0, 0), (1, 0, 0, 0)])
        self.assertEqual(views((0,), *before, goto(0, 8), ENTER), [(1, 2, 0, 1)])

    def test_folds_ahead_and_behind(self):
        before = [screen(5, 9), text("a", "b", "c", "d", "e", "f", "g")]
        ahead = [*before, fold(1, 3), goto(3, 1), ENTER]
        self.assertEqual(picture(5, *ahead), ["a    ", "b+   ", "d    ", "     ", "e    ", "f    ", "g    "] + ["     "] * 2)
        behind = [*before, fold(4, 6), goto(3, 0), ENTER]
        self.assertEqual(picture(5, *behind)[:8], ["a    ", "b    ", "c    ", "     ", "d    ", "e+   ", "g    ", "     "])
        right_behind = [*before, fold(3, 5), goto(2, 1), ENTER]
        self.assertEqual(picture(5, *right_behind)[:6], ["a    ", "b    ", "c    ", "     ", "d+   ", "f    "])
        self.assertEqual(last(*right_behind)[:2], [3, 0])

    def test_a_fold_that_begins_at_the_line(self):
        before = [screen(5, 6), text("a", "bcd", "e", "f", "g"), fold(1, 4), goto(1, 2)]
        self.assertEqual(picture(5, *before, ENTER)[:4], ["a    ", "bc+  ", "g    ", "     "])
        self.assertEqual(last(*before, ENTER)[:4], [1, 0, 0, 0])
        self.assertEqual(lines_after(*before, ENTER), ["a", "bc", "d", "e", "f", "g"])
        self.assertEqual(picture(5, *before, ENTER, UNFOLD)[1:], ["bc   ", "d    ", "e    ", "f    ", "g    "])
        self.assertEqual(last(*before, ENTER, fold(1, 5)), [-4])
        self.assertEqual(last(*before, ENTER, fold(1, 4))[:2], [1, 0])

    def test_points_within_the_fold_then(self):
        before = with_points([(1, 1), (1, 3), (1, 6), (3, 1), (1, 2)], [text("a", "bcdefg", "hi", "j", "k"), fold(1, 3)])
        self.assertEqual(points_after(5, *before, ENTER), [(1, 1), (1, 1), (1, 2), (4, 1), (1, 0)])

    def test_several_folds_that_begin_at_the_line(self):
        before = [screen(5, 6), text("a", "b", "c", "d", "e"), fold(0, 4), fold(0, 2), goto(0, 0), ENTER]
        self.assertEqual(picture(5, *before)[:3], ["+    ", "e    ", "     "])
        self.assertEqual([last(*before, fold(0, 5)), last(*before, fold(0, 3)), last(*before, fold(1, 4))], [[-4]] * 3)
        self.assertEqual(last(*before, fold(0, 2))[:2], [0, 0])

    def test_refusal_changes_nothing(self):
        before = [text(*["abc"] * 20), fold(2, 5), goto(1, 2), DOWN_SPLIT, goto(8, 1)]
        check_refused(self, before, ENTER, -5, (0, 1))


class BackWithinLineTest(unittest.TestCase):
    def test_the_byte_ahead_goes(self):
        before = [text("abc", "def")]
        self.assertEqual(lines_after(*before, goto(1, 1), BACK), ["abc", "ef"])
        self.assertEqual(lines_after(*before, goto(1, 2), BACK), ["abc", "df"])
        self.assertEqual(lines_after(*before, goto(1, 3), BACK, BACK), ["abc", "d"])
        self.assertEqual(points(*before, goto(1, 3), BACK, BACK)[-2:], [(1, 2), (1, 1)])

    def test_other_points(self):
        before = with_points([(1, 1), (1, 2), (1, 3), (1, 4), (1, 2)], [text("abcd", "efgh", "ijkl")])
        self.assertEqual(points_after(5, *before, BACK), [(1, 1), (1, 1), (1, 2), (1, 3), (1, 1)])
        before = with_points([(0, 3), (0, 1), (2, 3), (2, 4), (1, 2)], [text("abcd", "efgh", "ijkl")])
        self.assertEqual(points_after(5, *before, BACK), [(0, 3), (0, 1), (2, 3), (2, 4), (1, 1)])
        before = with_points([(0, 0), (0, 1), (0, 1)], [text("a")])
        self.assertEqual(points_after(3, *before, BACK), [(0, 0), (0, 0), (0, 0)])

    def test_a_row_fewer(self):
        before = [screen(11, 4), text("aaaaaaaaaaa", "b"), *scrolled((1, 0), 2), goto(0, 11)]
        self.assertEqual(views((0,), *before), [(1, 0, 0, 2)])
        self.assertEqual(views((0,), *before, BACK), [(1, 0, 0, 1)])
        self.assertEqual(views((0,), *before, BACK, BACK), [(1, 0, 0, 1)])

    def test_refusal_at_the_texts_beginning(self):
        self.assertEqual(asked(BACK, typed("a"), LEFT, BACK)[0::3], [[-6], [-6]])
        self.assertEqual(lines_after(text("ab", "c"), BACK), ["ab", "c"])
        before = [text("abc def", "b", "c", "d"), fold(1, 3), ACROSS]
        check_refused(self, before, BACK, -6, (0, 1))


class JoinTest(unittest.TestCase):
    def test_two_lines_become_one(self):
        before = [text("abc", "de", "", "f")]
        self.assertEqual(lines_after(*before, goto(1, 0), BACK), ["abcde", "", "f"])
        self.assertEqual(points(*before, goto(1, 0), BACK)[-1], (0, 3))
        self.assertEqual(lines_after(*before, goto(2, 0), BACK), ["abc", "de", "f"])
        self.assertEqual(points(*before, goto(2, 0), BACK)[-1], (1, 2))
        self.assertEqual(lines_after(*before, goto(3, 0), BACK), ["abc", "de", "f"])
        self.assertEqual(points(*before, goto(3, 0), BACK)[-1], (2, 0))
        self.assertEqual(lines_after(text("", ""), goto(1, 0), BACK, BACK), [""])

    def test_enter_and_back(self):
        self.assertEqual(lines_after(text("abcd"), goto(0, 2), ENTER, BACK), ["abcd"])
        self.assertEqual(points(text("abcd"), goto(0, 2), ENTER, BACK)[-1], (0, 2))

    def test_sixty_bytes_together(self):
        self.assertEqual(points(text("a" * 31, "b" * 29), goto(1, 0), BACK)[-1], (0, 31))
        self.assertEqual(lines_after(text("a" * 31, "b" * 29), goto(1, 0), BACK), ["a" * 31 + "b" * 29])
        self.assertEqual(last(text("a" * 31, "b" * 30), goto(1, 0), BACK), [-5])
        self.assertEqual(last(text("a" * 60, "b"), goto(1, 0), BACK), [-5])
        self.assertEqual(points(text("a" * 60, ""), goto(1, 0), BACK)[-1], (0, 60))
        self.assertEqual(points(text("a", "b" * 60), goto(1, 1), BACK)[-1], (1, 0))
        self.assertEqual(last(text("a" * 60, "b"), BACK), [-6])

    def test_other_points(self):
        before = with_points([(0, 3), (1, 0), (1, 2), (1, 4), (2, 0)], [text("abcd", "efgh", "ijkl", "mnop")])
        self.assertEqual(points_after(5, *before, BACK), [(0, 3), (1, 0), (1, 2), (1, 4), (1, 4)])
        before = with_points([(2, 0), (2, 3), (3, 0), (3, 4), (2, 0)], [text("abcd", "efgh", "ijkl", "mnop")])
        self.assertEqual(points_after(5, *before, BACK), [(1, 4), (1, 7), (2, 0), (2, 4), (1, 4)])

    def test_tops(self):
        before = [screen(11, 2), text("a", "bbb", "ccccccccccccc", "d", "e"), goto(3, 0), ACROSS]
        self.assertEqual(views((0,), *before), [(3, 0, 2, 2)])
        self.assertEqual(views((0,), *before, goto(1, 0), BACK), [(2, 0, 1, 2)])
        behind = [screen(11, 2), text("a", "bbb", "c", "d", "e"), goto(4, 0), ACROSS, goto(2, 0)]
        self.assertEqual(views((0,), *behind), [(4, 0, 3, 0)])
        self.assertEqual(views((0,), *behind, BACK), [(3, 0, 2, 0)])
        ahead = [screen(11, 2), text("a", "bbb", "c", "d", "e"), goto(1, 0), ACROSS, goto(3, 0)]
        self.assertEqual(views((0,), *ahead, BACK), [(1, 0, 0, 0)])

    def test_a_top_of_the_line_that_goes(self):
        before = [screen(11, 5), text("a", "bbbbbb", "ccccccccccccc", "d"), *scrolled((2, 12), 3), goto(2, 0)]
        self.assertEqual(views((0,), *before), [(2, 12, 2, 1)])
        self.assertEqual(views((0,), *before, BACK), [(1, 18, 1, 0)])

    def test_rows_change_and_the_top_stays(self):
        before = [screen(11, 4), text("a", "bbbbbb", "cc", "d"), *scrolled((3, 0), 1), goto(2, 0)]
        self.assertEqual(views((0,), *before), [(3, 0, 1, 1)])
        self.assertEqual(views((0,), *before, BACK), [(2, 0, 1, 1)])

    def test_the_line_before_is_hidden_by_one_fold(self):
        before = [screen(6, 5), text("a", "b", "c", "d", "e"), fold(0, 3), goto(3, 0)]
        self.assertEqual(picture(6, *before)[:3], ["a+    ", "d     ", "e     "])
        self.assertEqual(picture(6, *before, BACK), ["a     ", "b     ", "cd    ", "e     ", "      "])
        self.assertEqual(last(*before, BACK)[:4], [2, 1, 0, 0])

    def test_the_line_before_is_hidden_by_several(self):
        before = [screen(6, 6), text("a", "b", "c", "d", "e", "f"), fold(0, 4), fold(2, 4), fold(0, 2), goto(4, 0)]
        self.assertEqual(picture(6, *before)[:3], ["a+    ", "e     ", "f     "])
        self.assertEqual(picture(6, *before, BACK), ["a+    ", "c     ", "de    ", "f     ", "      ", "      "])
        self.assertEqual(last(*before, BACK)[:2], [3, 1])

    def test_a_fold_of_two_lines_hides_the_line_before(self):
        before = [screen(6, 6), text("a", "b", "c", "d", "e"), fold(0, 2), goto(2, 0)]
        self.assertEqual(picture(6, *before, BACK)[:4], ["a     ", "bc    ", "d     ", "e     "])

    def test_a_fold_whose_beginning_is_the_line_that_goes(self):
        before = [screen(6, 5), text("a", "b", "c", "d", "e"), fold(2, 4), goto(2, 0), BACK]
        self.assertEqual(picture(6, *before), ["a     ", "bc+   ", "e     ", "      ", "      "])
        self.assertEqual(last(*before)[:2], [1, 1])
        self.assertEqual(last(*before, fold(1, 3)), [-4])
        self.assertEqual(lines_after(*before, UNFOLD), ["a", "bc", "d", "e"])
        both = [screen(6, 5), text("a", "b", "c", "d", "e"), fold(0, 2), fold(2, 4), goto(2, 0), BACK]
        self.assertEqual(picture(6, *both), ["a     ", "bc+   ", "e     ", "      ", "      "])

    def test_folds_ahead_and_behind(self):
        before = [screen(6, 7), text("a", "b", "c", "d", "e", "f", "g"), fold(0, 2), fold(5, 7), goto(3, 0), BACK]
        self.assertEqual(picture(6, *before)[:5], ["a+    ", "cd    ", "e     ", "f+    ", "      "])
        self.assertEqual([last(*before, fold(0, 2)), last(*before, fold(4, 6))], [[-4]] * 2)

    def test_other_windows_when_folds_are_opened(self):
        before = [screen(11, 4), text("a", "b", "c", "d", "e", "f"), fold(0, 3), goto(0, 1), ACROSS, goto(3, 0), BACK]
        self.assertEqual(views((0, 1), *before), [(0, 1, 0, 0), (2, 1, 0, 0)])

    def test_refusals_change_nothing(self):
        before = [text("a", "b" * 31, "c" * 30, "d"), fold(0, 2), goto(0, 1), ACROSS, goto(2, 0)]
        check_refused(self, before, BACK, -5, (0, 1))
        self.assertEqual(picture(20, *before, BACK), picture(20, *before))


class LongTypingTest(unittest.TestCase):
    def test_a_text_is_written(self):
        calls = [screen(12, 3)]
        for sign in "one two":
            calls.append(typed(sign))
        calls += [ENTER] + [typed(sign) for sign in "three"] + [ENTER, typed("f"), BACK, BACK, BACK, typed("E")]
        self.assertEqual(lines_after(*calls), ["one two", "threE"])
        self.assertEqual(last(*calls), [1, 5, 0, 0, 0, 0, 12, 3])
        self.assertEqual(picture(12, *calls), ["one two     ", "threE       ", "            "])

    def test_bytes_are_plain(self):
        self.assertEqual(asked(typed("a"), FRAME)[1][:2], [bytes_of("a")[0], 0])
        self.assertEqual(asked(typed("a"), view(0)), [[0, 1, 0, 0, 0, 0, 20, 6]] * 2)
        self.assertEqual(asked(typed("a"), focus(0)), [[0, 1, 0, 0, 0, 0, 20, 6]] * 2)
