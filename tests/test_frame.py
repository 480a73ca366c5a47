import unittest

from tests.asking import (ACROSS, BACK, CLOSE, DOWN, DOWN_SPLIT, ENTER, FRAME, LEFT, RIGHT, UNFOLD, asked, colours, focus,
                          fold, goto, last, machine, picture, points_of_frame, screen, scroll_on, text, typed)

# Letters are 1, digits 2; a quote (3) begins a text (4), to the next quote or the line's end; a # colours the rest of its
# line and all of the next line (5).
MARKED = machine((0, (97, 122, 1, 0), (48, 57, 2, 0), (34, 34, 3, 1), (35, 35, 5, 2)),
                 (0, (34, 34, 3, 0), (0, 255, 4, 1)),
                 (3, (0, 255, 5, 2)),
                 (0, (0, 255, 5, 3)))


def plain_colours(width, *calls):
    """The colours of the frame, without what points have more."""
    return ["".join(str(colour % 8) for colour in row) for row in colours(width, *calls)]


class BytesTest(unittest.TestCase):
    def test_at_the_beginning(self):
        self.assertEqual(last(FRAME), [32, 16] + [32, 0] * 119)

    def test_cells_are_bytes_and_colours_row_by_row(self):
        self.assertEqual(last(screen(3, 2), text("ab", "c"), FRAME), [97, 16, 98, 0, 32, 0, 99, 0, 32, 0, 32, 0])

    def test_rows_from_the_top_on(self):
        before = [screen(5, 3), text("aaaa bbbb cc", "", "d")]
        self.assertEqual(picture(5, *before), ["aaaa ", "bbbb ", "cc   "])
        self.assertEqual(picture(5, *before, goto(1, 0)), ["bbbb ", "cc   ", "     "])
        self.assertEqual(picture(5, *before, goto(2, 0)), ["cc   ", "     ", "d    "])

    def test_rows_below_all_rows(self):
        self.assertEqual(picture(4, screen(4, 4), text("ab", "c")), ["ab  ", "c   ", "    ", "    "])
        self.assertEqual(picture(4, screen(4, 3), text("ab", "c"), scroll_on(1)), ["c   ", "    ", "    "])
        self.assertEqual(last(screen(3, 2), FRAME), [32, 16] + [32, 0] * 5)

    def test_a_row_that_is_full(self):
        self.assertEqual(picture(4, screen(4, 3), text("abcd", "efghi")), ["abcd", "efgh", "i   "])

    def test_blanks_beyond_the_width(self):
        self.assertEqual(picture(4, screen(4, 3), text("abcd   ef", "gh")), ["abcd", "ef  ", "gh  "])
        self.assertEqual(picture(9, screen(9, 2), text("abcd    ", "ef"), ACROSS), ["abcd|abcd", "ef  |ef  "])


class ColoursTest(unittest.TestCase):
    def test_no_machine(self):
        self.assertEqual(plain_colours(4, screen(4, 2), text("ab 1", "c")), ["0000", "0000"])

    def test_a_machine_of_one_state(self):
        before = [screen(6, 2), text("ab 1", "c2"), machine((0, (97, 122, 7, 0), (49, 49, 3, 0)))]
        self.assertEqual(plain_colours(6, *before), ["770300", "700000"])

    def test_from_and_to_too(self):
        before = [screen(6, 1), text("abcdef"), machine((0, (98, 100, 5, 0)))]
        self.assertEqual(plain_colours(6, *before), ["055500"])

    def test_the_first_arm_that_has_it(self):
        before = [screen(6, 1), text("abc"), machine((0, (98, 98, 1, 0), (97, 99, 2, 0), (99, 99, 3, 0)))]
        self.assertEqual(plain_colours(6, *before), ["212000"])

    def test_the_arms_next_is_the_state_then(self):
        turns = machine((0, (97, 97, 1, 1)), (0, (97, 97, 2, 2)), (0, (97, 97, 3, 0)))
        self.assertEqual(plain_colours(9, screen(9, 1), text("aaaaaaa"), turns), ["123123100"])

    def test_no_arm_has_it_the_same_state(self):
        turns = machine((0, (97, 97, 1, 1)), (0, (97, 97, 2, 0)))
        self.assertEqual(plain_colours(9, screen(9, 1), text("axxaxaxa"), turns), ["100201020"])
        self.assertEqual(plain_colours(9, screen(9, 1), text("axa"), machine((0,))), ["000000000"])

    def test_at_a_lines_end_the_states_end(self):
        ends = machine((1, (97, 97, 1, 0)), (2, (97, 97, 2, 1)), (0, (97, 97, 3, 2)))
        before = [screen(3, 5), text("aa", "a", "", "a", "aa"), ends]
        self.assertEqual(plain_colours(3, *before), ["110", "200", "000", "100", "220"])

    def test_over_several_lines(self):
        before = [screen(9, 6), text('a1"b2"c', 'x"y', 'z', 'q#1', '"r"', 's"'), MARKED]
        self.assertEqual(plain_colours(9, *before), ["123443100", "134000000", "100000000", "155000000", "555000000", "130000000"])

    def test_a_line_of_several_rows_goes_on(self):
        before = [screen(4, 4), text('a "bb cc" d'), MARKED]
        self.assertEqual(picture(4, *before), ['a   ', '"bb ', 'cc" ', 'd   '])
        self.assertEqual(plain_colours(4, *before), ["1000", "3444", "4430", "1000"])

    def test_rows_that_are_not_seen_count(self):
        before = [screen(4, 2), text("a", "#", "b", "c"), MARKED]
        self.assertEqual(plain_colours(4, *before, goto(3, 0)), ["5000", "1000"])
        self.assertEqual(plain_colours(4, *before, fold(0, 2)), ["1000", "5000"])
        self.assertEqual(plain_colours(4, *before, fold(1, 3), goto(3, 0)), ["5000", "1000"])

    def test_typing_colours_what_is_behind(self):
        before = [screen(6, 3), text("ab", "cd", "ef"), MARKED]
        self.assertEqual(plain_colours(6, *before, typed("#")), ["555000", "550000", "110000"])
        self.assertEqual(plain_colours(6, *before, typed("#"), BACK), ["110000", "110000", "110000"])
        self.assertEqual(plain_colours(6, *before, typed("#"), ENTER), ["500000", "550000", "110000"])

    def test_blanks_of_the_text_have_colours_and_others_not(self):
        before = [screen(4, 2), text("a ", ""), machine((0, (32, 126, 6, 0)))]
        self.assertEqual(plain_colours(4, *before), ["6600", "0000"])

    def test_the_width_is_not_the_texts(self):
        before = [screen(9, 2), text("abcdef"), machine((0, (97, 98, 1, 0), (101, 102, 2, 0))), ACROSS]
        self.assertEqual(picture(9, *before), ["abcd|abcd", "ef  |ef  "])
        self.assertEqual(plain_colours(9, *before), ["110001100", "220002200"])

    def test_another_machine_and_a_refused_one(self):
        before = [screen(4, 1), text("ab"), machine((0, (97, 97, 1, 0)))]
        self.assertEqual(plain_colours(4, *before, machine((0, (98, 98, 2, 0)))), ["0200"])
        self.assertEqual(plain_colours(4, *before, machine((1, (98, 98, 2, 0)))), ["1000"])

    def test_text_and_screen_keep_the_machine(self):
        before = [machine((0, (97, 97, 1, 0))), text("ba"), screen(4, 1)]
        self.assertEqual(plain_colours(4, *before), ["0100"])


class FoldSignTest(unittest.TestCase):
    def test_behind_the_lines_last_byte(self):
        self.assertEqual(picture(5, screen(5, 3), text("ab", "c", "d"), fold(0, 2)), ["ab+  ", "d    ", "     "])
        self.assertEqual(picture(5, screen(5, 2), text("ab ", "c", "d"), fold(0, 2)), ["ab + ", "d    "])

    def test_a_line_without_bytes(self):
        self.assertEqual(picture(5, screen(5, 2), text("", "c", "d"), fold(0, 2)), ["+    ", "d    "])

    def test_the_last_cell(self):
        self.assertEqual(picture(5, screen(5, 2), text("abcd", "e"), fold(0, 2)), ["abcd+", "     "])

    def test_a_line_that_fills_its_row(self):
        self.assertEqual(picture(5, screen(5, 2), text("abcde", "f", "g"), fold(0, 2)), ["abcde", "g    "])
        self.assertEqual(picture(5, screen(5, 2), text("abcde  ", "f", "g"), fold(0, 2)), ["abcde", "g    "])
        beside = [screen(11, 2), text("abcde", "f", "g"), fold(0, 2), ACROSS]
        self.assertEqual(picture(11, *beside), ["abcde|abcde", "g    |g    "])

    def test_only_in_the_lines_last_row(self):
        self.assertEqual(picture(5, screen(5, 4), text("aaa bbb cc", "f", "g"), fold(0, 2)),
                         ["aaa  ", "bbb  ", "cc+  ", "g    "])

    def test_only_a_folds_first_line(self):
        self.assertEqual(picture(5, screen(5, 3), text("a", "b", "c", "d"), fold(1, 3)), ["a    ", "b+   ", "d    "])
        self.assertEqual(picture(5, screen(5, 3), text("a", "b", "c", "d"), fold(1, 4), fold(2, 4)), ["a    ", "b+   ", "     "])

    def test_its_colour_is_0(self):
        before = [screen(5, 2), text("ab", "c"), machine((0, (0, 255, 7, 0))), fold(0, 2)]
        self.assertEqual(last(*before, FRAME)[:6], [97, 7 + 16, 98, 7, 43, 0])

    def test_gone_when_opened(self):
        self.assertEqual(picture(5, screen(5, 2), text("a", "b"), fold(0, 2), UNFOLD), ["a    ", "b    "])

    def test_a_plus_of_the_text(self):
        before = [screen(5, 2), text("+", "+"), machine((0, (43, 43, 3, 0)))]
        self.assertEqual(plain_colours(5, *before), ["30000", "30000"])


class PointTest(unittest.TestCase):
    def test_on_a_byte_and_behind_the_last_one(self):
        before = [screen(4, 2), text("ab", "c")]
        self.assertEqual(points_of_frame(4, *before), [(0, 0, 16)])
        self.assertEqual(points_of_frame(4, *before, RIGHT), [(1, 0, 16)])
        self.assertEqual(points_of_frame(4, *before, RIGHT, RIGHT), [(2, 0, 16)])
        self.assertEqual(points_of_frame(4, *before, goto(1, 1)), [(1, 1, 16)])
        self.assertEqual(colours(4, *before, goto(1, 1)), [[0, 0, 0, 0], [0, 16, 0, 0]])

    def test_so_much_more_than_the_bytes_colour(self):
        before = [screen(9, 2), text("ab", "c"), machine((0, (97, 97, 7, 0), (98, 98, 3, 0))), ACROSS, goto(0, 1)]
        self.assertEqual(colours(9, *before), [[15, 3, 0, 0, 0, 7, 19, 0, 0], [0] * 9])
        self.assertEqual(colours(9, *before, focus(0)), [[23, 3, 0, 0, 0, 7, 11, 0, 0], [0] * 9])

    def test_on_the_folds_sign(self):
        before = [screen(5, 2), text("ab", "c"), machine((0, (0, 255, 7, 0))), fold(0, 2), goto(0, 2)]
        self.assertEqual(last(*before, FRAME)[:8], [97, 7, 98, 7, 43, 16, 32, 0])
        self.assertEqual(last(*before, DOWN_SPLIT), [-5])
        self.assertEqual(last(screen(9, 2), *before[1:], ACROSS, FRAME)[:8], [97, 7, 98, 7, 43, 8, 32, 0])

    def test_beyond_the_width(self):
        before = [screen(4, 2), text("abcd   ef"), machine((0, (100, 100, 5, 0)))]
        self.assertEqual(points_of_frame(4, *before, goto(0, 3)), [(3, 0, 16)])
        for place in (4, 5, 6):
            self.assertEqual(points_of_frame(4, *before, goto(0, place)), [(3, 0, 16)])
            self.assertEqual(colours(4, *before, goto(0, place)), [[0, 0, 0, 21], [0] * 4])
        self.assertEqual(points_of_frame(4, *before, goto(0, 7)), [(0, 1, 16)])
        self.assertEqual(points_of_frame(4, *before, goto(0, 7), LEFT), [(3, 0, 16)])

    def test_behind_a_line_that_fills_its_row(self):
        self.assertEqual(points_of_frame(4, screen(4, 2), text("abcd", "e"), goto(0, 4)), [(3, 0, 16)])
        self.assertEqual(points_of_frame(4, screen(4, 2), text("abcd  ", "e"), goto(0, 6)), [(3, 0, 16)])
        beside = [screen(9, 1), text("abcd"), goto(0, 4), ACROSS]
        self.assertEqual(points_of_frame(9, *beside), [(3, 0, 8), (8, 0, 16)])

    def test_in_a_later_row_of_its_line(self):
        before = [screen(4, 2), text("aa bb cc dd")]
        self.assertEqual(points_of_frame(4, *before, goto(0, 4)), [(1, 1, 16)])
        self.assertEqual(points_of_frame(4, *before, goto(0, 10)), [(1, 1, 16)])

    def test_one_in_each_window(self):
        before = [screen(12, 6), text("abcdef", "gh", "ij"), goto(1, 1), ACROSS, goto(0, 2), DOWN_SPLIT, goto(2, 2)]
        self.assertEqual(points_of_frame(12, *before), [(8, 0, 8), (1, 2, 8), (8, 5, 16)])
        self.assertEqual(points_of_frame(12, *before, focus(0)), [(8, 0, 8), (1, 2, 16), (8, 5, 8)])
        self.assertEqual(points_of_frame(12, *before, CLOSE), [(8, 0, 8), (1, 2, 16)])


class WindowsTest(unittest.TestCase):
    def test_across(self):
        self.assertEqual(picture(9, screen(9, 3), text("ab", "cd"), ACROSS), ["ab  |ab  ", "cd  |cd  ", "    |    "])

    def test_down(self):
        self.assertEqual(picture(4, screen(4, 7), text("ab", "cd"), DOWN_SPLIT),
                         ["ab  ", "cd  ", "    ", "----", "ab  ", "cd  ", "    "])

    def test_nested(self):
        before = [screen(12, 5), text("abcdef", "gh"), ACROSS, DOWN_SPLIT]
        self.assertEqual(picture(12, *before),
                         ["abcde|abcdef", "f    |gh    ", "gh   |------", "     |abcdef", "     |gh    "])
        other = [screen(12, 5), text("abcdef", "gh"), DOWN_SPLIT, ACROSS]
        self.assertEqual(picture(12, *other),
                         ["abcdef      ", "gh          ", "------------", "abcde|abcdef", "f    |gh    "])
        first = [screen(12, 5), text("abcdef", "gh"), DOWN_SPLIT, focus(0), ACROSS]
        self.assertEqual(picture(12, *first),
                         ["abcde|abcdef", "f    |gh    ", "------------", "abcdef      ", "gh          "])

    def test_lines_between_have_colour_0(self):
        before = [screen(7, 3), text("|||"), machine((0, (0, 255, 7, 0))), ACROSS, DOWN_SPLIT]
        self.assertEqual(plain_colours(7, *before), ["7770777", "0000000", "0000777"])
        self.assertEqual(picture(7, *before), ["|||||||", "   |---", "   ||||"])

    def test_windows_at_their_own_tops(self):
        before = [screen(9, 2), text(*"abcdefgh"), goto(7, 0), ACROSS, goto(2, 0), focus(0), goto(5, 0)]
        self.assertEqual(picture(9, *before), ["f   |c   ", "g   |d   "])

    def test_wrapped_at_each_windows_width(self):
        before = [screen(15, 3), text("aaa bbb ccc"), ACROSS, ACROSS]
        self.assertEqual(picture(15, *before), ["aaa bbb|aaa|aaa", "ccc    |bbb|bbb", "       |ccc|ccc"])

    def test_closed_windows_are_gone(self):
        before = [screen(9, 2), text("abcdefghi"), ACROSS, CLOSE]
        self.assertEqual(picture(9, *before), ["abcdefghi", "         "])

    def test_twelve_windows(self):
        before = [screen(7, 11), text("a")] + [DOWN_SPLIT] * 5
        for window in (0, 1, 2, 3, 4, 5):
            before += [focus(window), ACROSS]
        self.assertEqual(picture(7, *before), ["a  |a  ", "-------"] * 5 + ["a  |a  "])
        self.assertEqual(len(points_of_frame(7, *before)), 12)

    def test_the_greatest_screen(self):
        before = [screen(40, 20), text(*["x" * 40] * 20)]
        self.assertEqual(picture(40, *before), ["x" * 40] * 20)
        self.assertEqual(len(last(*before, FRAME)), 1600)


class AskedOnlyTest(unittest.TestCase):
    def test_frame_changes_nothing(self):
        calls = [screen(9, 2), text("ab", "cd"), ACROSS, DOWN, RIGHT]
        found = asked(*calls, FRAME, FRAME, DOWN, FRAME)
        self.assertEqual(found[5], found[6])
        self.assertEqual(found[7], [-6])
        self.assertEqual(found[8], found[6])
