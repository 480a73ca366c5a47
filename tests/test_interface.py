import unittest

from foldedwindows.screen import answers
from tests.asking import (ACROSS, BACK, BEYOND, CLOSE, DOWN, DOWN_SPLIT, DRAW, ENTER, FRAME, LEFT, RIGHT, SHOWS, UNFOLD, UP,
                          asked, focus, fold, goto, joined, machine, screen, scroll_back, scroll_on, text, typed, view)

EVERY_CALL = [machine((0, (32, 126, 1, 0))), text("ab cd", "e"), screen(30, 9), ACROSS, DOWN_SPLIT, goto(1, 1), UP,
              DOWN, LEFT, RIGHT, focus(0), CLOSE, machine(), text(), screen(0, 0), focus(9), goto(9, 9), CLOSE, CLOSE,
              DRAW, typed("x"), ENTER, fold(1, 3), view(2), scroll_on(1), scroll_back(1), FRAME, UNFOLD, BACK, DRAW, SHOWS,
              typed(0), fold(0, 9), UNFOLD, scroll_on(101), view(9)]


class InterfaceTest(unittest.TestCase):
    def test_calls_and_answers_are_flat_lists(self):
        self.assertEqual(answers([9]), [1, -6])
        self.assertEqual(answers([0, 2, 0, 0]), [1, 1])
        self.assertEqual(answers([0, 0, 1, 0]), [1, -1, 1, -1])
        self.assertEqual(answers([1, 5, 2, 65, 66, 1, 67, 6, 0, 1, 10, 10, 3, 0, 4]),
                         [8, 0, 0, 0, 0, 0, 0, 20, 6, 8, 0, 1, 0, 0, 0, 0, 20, 6, 8, 0, 2, 0, 0, 0, 0, 20, 6,
                          8, 1, 0, 0, 0, 0, 0, 20, 6, 8, 1, 0, 0, 0, 0, 3, 20, 3, 8, 1, 0, 0, 0, 0, 0, 20, 6])

    def test_each_call_has_its_number_and_its_numbers(self):
        self.assertEqual(answers([11, 65, 12, 11, 66, 20]),
                         [8, 0, 1, 0, 0, 0, 0, 20, 6, 8, 1, 0, 0, 0, 0, 0, 20, 6, 8, 1, 1, 0, 0, 0, 0, 20, 6,
                          5, 2, 1, 65, 1, 66])
        self.assertEqual(answers([12, 14, 0, 2, 15, 16, 0, 1, 16, 1, 1, 13, 13, 20]),
                         [8, 1, 0, 0, 0, 0, 0, 20, 6, 8, 0, 0, 0, 0, 0, 0, 20, 6, 8, 0, 0, 0, 0, 0, 0, 20, 6,
                          8, 1, 0, 1, 0, 0, 0, 20, 6, 8, 1, 0, 0, 0, 0, 0, 20, 6, 8, 0, 0, 0, 0, 0, 0, 20, 6,
                          1, -6, 2, 1, 0])
        self.assertEqual(answers([2, 3, 1, 17, 18, 18, 19, 0, 19, 1]),
                         [8, 0, 0, 0, 0, 0, 0, 3, 1, 6, 32, 16, 32, 0, 32, 0, 10, 3, 0, 32, 16, 1, 32, 0, 2, 32, 0, 1, 0,
                          8, 0, 0, 0, 0, 0, 0, 3, 1, 1, -2])

    def test_every_number_is_a_plain_whole_number(self):
        for number in answers(joined(EVERY_CALL)):
            self.assertIs(type(number), int)

    def test_what_is_handed_in_stays_and_nothing_is_kept(self):
        calls = joined(EVERY_CALL)
        before = list(calls)
        first = answers(calls)
        self.assertEqual(calls, before)
        answers([3, 1, 3, 1, 1, 2, 1, 65])
        self.assertEqual(answers(calls), first)
        self.assertEqual(calls, before)
        self.assertEqual(answers([5, 0]), [8, 0, 0, 0, 0, 0, 0, 20, 6])

    def test_what_is_answered_is_a_new_list(self):
        calls = [5, 0]
        first = answers(calls)
        first.append(1)
        self.assertEqual(answers(calls), [8, 0, 0, 0, 0, 0, 0, 20, 6])

    def test_handed_in_is_not_written_to(self):
        class Watched(list):
            def written(self, *given):
                raise AssertionError("written to")

            __setitem__ = __delitem__ = __iadd__ = __imul__ = written
            append = extend = insert = pop = remove = clear = sort = reverse = written

        self.assertEqual(answers(Watched(joined(EVERY_CALL))), answers(joined(EVERY_CALL)))

    def test_longest_lists(self):
        full = text(*["~" * 36] * 20)
        self.assertEqual(len(full), 742)
        self.assertEqual(len(asked(*[full] * 40)), 40)

    def test_numbers_of_any_size(self):
        for call in (screen(BEYOND, BEYOND), goto(BEYOND, BEYOND), goto(0, BEYOND), goto(BEYOND, 0), typed(BEYOND),
                     fold(0, BEYOND), fold(BEYOND, 0), fold(BEYOND, BEYOND), scroll_on(BEYOND), scroll_back(BEYOND)):
            self.assertEqual(asked(call), [[-1]])
        self.assertEqual(asked(focus(BEYOND)), [[-2]])
        self.assertEqual(asked(view(BEYOND)), [[-2]])

    def test_only_refusals_are_below_0(self):
        for answer in asked(*EVERY_CALL):
            self.assertTrue(len(answer) == 1 or min(answer) >= 0)

    def test_greatest_answers(self):
        found = asked(screen(40, 20), text(*["~" * 36] * 20), *[FRAME] * 20, *[SHOWS] * 18)
        self.assertEqual(len(found[2]), 1600)
        self.assertEqual(len(found[-1]), 741)
