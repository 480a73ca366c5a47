import unittest

from foldedwindows.screen import answers
from tests.asking import (ACROSS, BEYOND, CLOSE, DOWN, DOWN_SPLIT, LEFT, RIGHT, UP, asked, focus, goto, joined,
                          machine, screen, text)

EVERY_CALL = [machine((0, (32, 126, 1, 0))), text("ab cd", "e"), screen(30, 9), ACROSS, DOWN_SPLIT, goto(1, 1), UP,
              DOWN, LEFT, RIGHT, focus(0), CLOSE, machine(), text(), screen(0, 0), focus(9), goto(9, 9), CLOSE, CLOSE]


class InterfaceTest(unittest.TestCase):
    def test_calls_and_answers_are_flat_lists(self):
        self.assertEqual(answers([9]), [1, -6])
        self.assertEqual(answers([0, 2, 0, 0]), [1, 1])
        self.assertEqual(answers([0, 0, 1, 0]), [1, -1, 1, -1])
        self.assertEqual(answers([1, 5, 2, 65, 66, 1, 67, 6, 0, 1, 10, 10, 3, 0, 4]),
                         [8, 0, 0, 0, 0, 0, 0, 20, 6, 8, 0, 1, 0, 0, 0, 0, 20, 6, 8, 0, 2, 0, 0, 0, 0, 20, 6,
                          8, 1, 0, 0, 0, 0, 0, 20, 6, 8, 1, 0, 0, 0, 0, 3, 20, 3, 8, 1, 0, 0, 0, 0, 0, 20, 6])

    def test_every_number_is_a_plain_whole_number(self):
        for number in answers(joined(EVERY_CALL)):
            self.assertIs(type(number), int)

    def test_what_is_handed_in_stays_and_nothing_is_kept(self):
        calls = joined(EVERY_CALL)
        before = list(calls)
        first = answers(calls)
        self.assertEqual(calls, before)
        answers([3, 1, 3, 1, 1, 2, 1, 65])
        self.assertEqual(answers(calls), first)
        self.assertEqual(calls, before)
        self.assertEqual(answers([5, 0]), [8, 0, 0, 0, 0, 0, 0, 20, 6])

    def test_what_is_answered_is_a_new_list(self):
        calls = [5, 0]
        first = answers(calls)
        first.append(1)
        self.assertEqual(answers(calls), [8, 0, 0, 0, 0, 0, 0, 20, 6])

    def test_handed_in_is_not_written_to(self):
        class Watched(list):
            def written(self, *given):
                raise AssertionError("written to")

            __setitem__ = __delitem__ = __iadd__ = __imul__ = written
            append = extend = insert = pop = remove = clear = sort = reverse = written

        self.assertEqual(answers(Watched(joined(EVERY_CALL))), answers(joined(EVERY_CALL)))

    def test_longest_lists(self):
        full = text(*["~" * 36] * 20)
        self.assertEqual(len(full), 742)
        self.assertEqual(len(asked(*[full] * 40)), 40)

    def test_numbers_of_any_size(self):
        for call in (screen(BEYOND, BEYOND), goto(BEYOND, BEYOND), goto(0, BEYOND), goto(BEYOND, 0)):
            self.assertEqual(asked(call), [[-1]])
        self.assertEqual(asked(focus(BEYOND)), [[-2]])
