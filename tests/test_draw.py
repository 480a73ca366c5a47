import unittest

from tests.asking import (ACROSS, BACK, CLOSE, DOWN, DRAW, ENTER, FRAME, LEFT, RIGHT, SHOWS, UNFOLD, asked, focus, fold,
                          goto, last, machine, screen, scroll_back, scroll_on, text, typed, view)


def cells_of(drawn):
    """The cells that were drawn: number, byte, colour each."""
    if len(drawn) != 1 + 3 * drawn[0]:
        raise ValueError("not so many cells as told")
    return [tuple(drawn[at:at + 3]) for at in range(1, len(drawn), 3)]


def drawn_after(before, *changes):
    """What is drawn after the changes, all that was before having been drawn."""
    return cells_of(last(*before, DRAW, *changes, DRAW))


class DrawTest(unittest.TestCase):
    def test_all_cells_the_first_time(self):
        found = last(screen(4, 2), text("ab", "c"), DRAW)
        self.assertEqual(found, [8, 0, 97, 16, 1, 98, 0, 2, 32, 0, 3, 32, 0, 4, 99, 0, 5, 32, 0, 6, 32, 0, 7, 32, 0])
        self.assertEqual(last(DRAW)[:4], [120, 0, 32, 16])
        self.assertEqual(len(last(DRAW)), 361)

    def test_none_at_once_again(self):
        self.assertEqual(asked(text("abc"), DRAW, DRAW, DRAW)[2:], [[0], [0]])

    def test_just_those_that_are_otherwise(self):
        before = [screen(5, 3), text("abc", "d")]
        self.assertEqual(drawn_after(before, typed("x")), [(0, 120, 0), (1, 97, 16), (2, 98, 0), (3, 99, 0)])
        self.assertEqual(drawn_after(before, RIGHT), [(0, 97, 0), (1, 98, 16)])
        self.assertEqual(drawn_after(before, goto(0, 3), typed("x")), [(0, 97, 0), (3, 120, 0), (4, 32, 16)])
        self.assertEqual(drawn_after(before, DOWN, BACK), [(0, 97, 0), (3, 100, 16), (5, 32, 0)])

    def test_a_byte_that_is_otherwise_or_a_colour(self):
        before = [screen(5, 1), text("abc")]
        self.assertEqual(drawn_after(before, text("axc")), [(1, 120, 0)])
        self.assertEqual(drawn_after(before, machine((0, (98, 98, 4, 0)))), [(1, 98, 4)])
        self.assertEqual(drawn_after(before, machine((0, (98, 98, 0, 0)))), [])

    def test_colours_of_later_lines(self):
        before = [screen(5, 2), text("ab", "cd"), machine((0, (34, 34, 1, 1), (97, 122, 2, 0)), (1, (0, 255, 3, 1)))]
        self.assertEqual(drawn_after(before, goto(1, 0), typed('"')),
                         [(0, 97, 2), (5, 34, 1), (6, 99, 19), (7, 100, 3)])
        self.assertEqual(drawn_after(before, goto(0, 2), typed('"')),
                         [(0, 97, 2), (2, 34, 1), (3, 32, 16), (5, 99, 3), (6, 100, 3)])

    def test_what_comes_and_goes_is_not_drawn(self):
        before = [screen(5, 3), text("abc", "d")]
        self.assertEqual(drawn_after(before, typed("x"), BACK), [])
        self.assertEqual(drawn_after(before, ENTER, BACK), [])
        self.assertEqual(drawn_after(before, RIGHT, LEFT), [])
        self.assertEqual(drawn_after(before, scroll_on(1), scroll_back(1), goto(0, 0)), [])

    def test_all_again_after_screen(self):
        before = [text("abc"), DRAW]
        self.assertEqual(last(*before, screen(20, 6), DRAW)[0], 120)
        self.assertEqual(last(*before, screen(5, 2), DRAW)[0], 10)
        self.assertEqual(asked(*before, screen(5, 2), DRAW, DRAW)[-1], [0])
        self.assertEqual(last(*before, screen(5, 2), screen(20, 6), DRAW)[0], 120)

    def test_not_after_a_refused_screen(self):
        before = [text("abc"), DRAW]
        for refused in (screen(0, 5), screen(41, 5), screen(5, 21), screen(2, 2)):
            self.assertEqual(last(*before, refused, DRAW), [0])
        self.assertEqual(last(*before, screen(41, 5), RIGHT, DRAW), [2, 0, 97, 0, 1, 98, 16])

    def test_frame_changes_nothing_of_what_was_drawn(self):
        before = [screen(5, 1), text("abc")]
        self.assertEqual(last(*before, FRAME, DRAW)[0], 5)
        self.assertEqual(drawn_after(before, RIGHT, FRAME), [(0, 97, 0), (1, 98, 16)])

    def test_asking_and_refusals_draw_nothing(self):
        self.assertEqual(drawn_after([text("abc")], SHOWS, view(0), view(1), LEFT, CLOSE, UNFOLD, focus(0)), [])

    def test_windows(self):
        before = [screen(7, 1), text("ab")]
        self.assertEqual(drawn_after(before, ACROSS), [(0, 97, 8), (3, 124, 0), (4, 97, 16), (5, 98, 0)])
        both = [*before, ACROSS]
        self.assertEqual(drawn_after(both, focus(0)), [(0, 97, 16), (4, 97, 8)])
        self.assertEqual(drawn_after(both, CLOSE), [(0, 97, 16), (3, 32, 0), (4, 32, 0), (5, 32, 0)])
        self.assertEqual(drawn_after(both, typed("x")), [(0, 120, 8), (1, 97, 0), (2, 98, 0), (4, 120, 0), (5, 97, 16), (6, 98, 0)])

    def test_folds(self):
        before = [screen(4, 3), text("a", "b", "c")]
        self.assertEqual(drawn_after(before, fold(0, 2)), [(1, 43, 0), (4, 99, 0), (8, 32, 0)])
        self.assertEqual(drawn_after([*before, fold(0, 2)], UNFOLD), [(1, 32, 0), (4, 98, 0), (8, 99, 0)])

    def test_what_was_drawn_last_not_first(self):
        before = [screen(5, 1), text("abc"), DRAW, RIGHT]
        self.assertEqual(drawn_after(before, LEFT), [(0, 97, 16), (1, 98, 0)])
        self.assertEqual(drawn_after(before, RIGHT), [(1, 98, 0), (2, 99, 16)])
