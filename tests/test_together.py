"""Longer lists of calls, the same each time, in which windows, folds and changes come together."""

import random
import unittest

from foldedwindows.screen import answers
from tests.asking import (ACROSS, BACK, CLOSE, DOWN, DOWN_SPLIT, DRAW, ENTER, FRAME, LEFT, RIGHT, SHOWS, UNFOLD, UP, asked,
                          focus, fold, goto, in_rows, joined, lines_after, machine, screen, scroll_back, scroll_on, text,
                          typed, view)
from tests.told import Told

WORDS = ["", "a", "bb", "cccc", "ddddddd", " ", "   ", '"', '"e"', "#f", "7", "g" * 30]


def some_text(source):
    most = source.choice((3, 8, 20))
    return text(*[" ".join(source.choices(WORDS, k=source.randint(0, 9)))[:60] for line in range(source.randint(1, most))])


def some_machine(source):
    count = source.randint(1, 6)
    states = []
    for state in range(count):
        arms = []
        for arm in range(source.randint(0, 4)):
            first = source.choice((32, 34, 35, 97, 99, 55))
            arms.append((first, first + source.choice((0, 0, 1, 3, 90)), source.randint(0, 7), source.randrange(count)))
        states.append((source.randrange(count), *arms))
    return machine(*states)


def some_fold(source, told):
    first = source.randrange(len(told.lines))
    return fold(first, min(first + source.randint(2, 6), len(told.lines)))


def some_place(source, told):
    line = source.randrange(len(told.lines))
    return goto(line, source.randint(0, len(told.lines[line])))


def some_change(source):
    return source.choice([typed(source.choice('ab c"#7')), typed(" "), ENTER, BACK, BACK])


def wild_call(source):
    """A call that may well be refused."""
    wild = (0, 1, 2, 3, 5, 11, 12, 19, 20, 21, 40, 41, 60, 61, 100, 101, 4294967295)
    return source.choice([
        screen(source.choice(wild), source.choice(wild)), focus(source.choice(wild)), view(source.choice(wild)),
        goto(source.choice(wild), source.choice(wild)), typed(source.choice((0, 31, 32, 126, 127, 4294967295))),
        fold(source.choice(wild), source.choice(wild)), scroll_on(source.choice(wild)), scroll_back(source.choice(wild)),
        text(), machine(), machine((1,)), text("a", [127]), text("x" * 61), CLOSE, UNFOLD, BACK, LEFT, UP, ACROSS, DOWN_SPLIT,
    ])


def some_call(source, told, leaning):
    """Some call that there is mostly an answer of, where the screen is as told."""
    luck = source.random()
    if luck < 0.12:
        return wild_call(source)
    if luck < 0.4:
        return some_change(source)
    if luck < 0.8 and leaning == "windows":
        return source.choice([ACROSS, DOWN_SPLIT, ACROSS, DOWN_SPLIT, CLOSE, focus(source.choice(list(told.points)))])
    if luck < 0.8 and leaning == "folds":
        return some_fold(source, told)
    return source.choice([
        ACROSS, DOWN_SPLIT, focus(source.choice(list(told.points))), focus(source.choice(list(told.points))),
        some_place(source, told), some_place(source, told), some_fold(source, told), some_fold(source, told),
        some_fold(source, told), UNFOLD, UP, DOWN, LEFT, RIGHT, scroll_on(source.randint(0, 5)), DRAW, FRAME,
        scroll_back(source.randint(0, 5)), SHOWS, source.choice([CLOSE, some_machine(source), UNFOLD]),
        source.choice([some_text(source), screen(source.randint(5, 40), source.randint(2, 20)), UP, DOWN]),
    ])


def some_list(source, count):
    """A list of calls, and what is told of each."""
    told = Told()
    leaning = source.choice(("", "windows", "folds"))
    calls = [screen(source.randint(11, 40), source.randint(3, 20)), some_text(source), some_machine(source)]
    found = [told.answer(call) for call in calls]
    while len(calls) < count:
        calls.append(some_call(source, told, leaning))
        found.append(told.answer(calls[-1]))
    return calls, found


class AsToldTest(unittest.TestCase):
    def test_answers(self):
        source = random.Random(11)
        done = set()
        for number in range(300):
            calls, found = some_list(source, 40)
            self.assertEqual(asked(*calls), found)
            done |= {(call[0], min(answer[0], 0)) for call, answer in zip(calls, found)}
        # Every call has come, and every refusal.
        refusals = {(0, -1), (1, -1), (2, -1), (2, -5), (3, -4), (3, -5), (4, -6), (5, -2), (6, -1), (7, -6), (8, -6), (9, -6),
                    (10, -6), (11, -1), (11, -5), (12, -5), (13, -5), (13, -6), (14, -1), (14, -4), (14, -5), (15, -6),
                    (16, -1), (19, -2)}
        self.assertEqual(done, {(call, 0) for call in range(21)} | refusals)

    def test_views_and_frame_after_each_call(self):
        source = random.Random(12)
        for number in range(30):
            calls = some_list(source, 25)[0]
            told = Told()
            for count, call in enumerate(calls, 1):
                told.answer(call)
                looked = [view(window) for window in range(told.made + 1)] + [FRAME, SHOWS]
                self.assertEqual(asked(*calls[:count], *looked)[count:], [told.answer(look) for look in looked])


class WholeTest(unittest.TestCase):
    def test_what_is_drawn_laid_over_what_was_is_the_frame(self):
        source = random.Random(13)
        for number in range(150):
            calls = some_list(source, 13)[0]
            found = asked(*joined([[call, DRAW, FRAME] for call in calls]))
            cells = {}
            for call, answer, drawn, frame in zip(calls, found[::3], found[1::3], found[2::3]):
                if call[0] == 2 and answer[0] >= 0:
                    cells = {}
                if call[0] == 18:
                    self.lay_over(cells, answer)
                changed = self.lay_over(cells, drawn)
                self.assertEqual(changed, sorted(changed))
                self.assertEqual([number for cell in sorted(cells) for number in cells[cell]], frame)

    def lay_over(self, cells, drawn):
        """Lay what was drawn over the cells; all of it is otherwise than what was."""
        self.assertEqual(len(drawn), 1 + 3 * drawn[0])
        numbers = []
        for number, byte, colour in in_rows(3, drawn[1:]):
            self.assertNotEqual(cells.get(number), (byte, colour))
            cells[number] = (byte, colour)
            numbers.append(number)
        return numbers

    def test_every_point_is_seen(self):
        source = random.Random(14)
        for number in range(150):
            calls = some_list(source, 26)[0]
            found = asked(*calls, FRAME, *[view(window) for window in range(12)])
            rooms = [answer[4:] for answer in found[27:] if answer != [-2]]
            width = [call[1] for call, answer in zip(calls, found) if call[0] == 2 and answer[0] >= 0][-1]
            marked = [(at % width, at // width) for at, colour in enumerate(found[26][1::2]) if colour > 7]
            self.assertEqual(len(marked), len(rooms))
            self.assertEqual(len([colour for colour in found[26][1::2] if colour > 15]), 1)
            for column, row, wide, high in rooms:
                within = [cell for cell in marked if column <= cell[0] < column + wide and row <= cell[1] < row + high]
                self.assertEqual(len(within), 1)

    def test_other_points_stay_at_their_bytes(self):
        source = random.Random(15)
        changes = 0
        for number in range(400):
            calls = [call for call in some_list(source, 30)[0] if call[0] != 14][:24]
            change = some_change(source)
            found = asked(*calls, change, *[view(window) for window in range(12)])
            before = asked(*calls, focus(99), *[view(window) for window in range(12)])
            if found[len(calls)][0] < 0 or sum(answer != [-2] for answer in before[-12:]) < 2:
                continue
            changes += 1
            point = asked(*calls, scroll_on(0))[-1]
            others = [(old, new) for old, new in zip(before[-12:], found[-12:]) if old != [-2] and old[4:] != point[4:]]
            self.check_others(others, point, change == BACK, lines_after(*calls), lines_after(*calls, change))
        self.assertGreater(changes, 100)

    def check_others(self, others, point, back, lines, lines_then):
        """Points ahead of the change have as much ahead of them as before, points behind it as much behind them."""
        for old, new in others:
            if old[:2] < point[:2] or old[:2] == point[:2] and not back:
                self.assertEqual(new[:2], old[:2])
            else:
                self.assertEqual((len(lines_then) - new[0], len(lines_then[new[0]]) - new[1]),
                                 (len(lines) - old[0], len(lines[old[0]]) - old[1]))

    def test_the_same_twice_and_nothing_changed(self):
        source = random.Random(16)
        for number in range(60):
            numbers = joined(some_list(source, 40)[0])
            before = list(numbers)
            first = answers(numbers)
            self.assertEqual(numbers, before)
            self.assertEqual(answers(numbers), first)
            self.assertTrue(all(type(number) is int for number in first))
