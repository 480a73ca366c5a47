"""Long rows of calls, the same each time: what must hold after every call."""

import random
import unittest

from tests.asking import ACROSS, CLOSE, DOWN, DOWN_SPLIT, LEFT, RIGHT, UP, asked, focus, goto, screen, text
from tests.told import wrapped


def place_row(rows, place):
    """Which of a line's rows a place is in."""
    ends = [sum(len(row) for row in rows[:number + 1]) for number in range(len(rows))]
    return min([number for number, end in enumerate(ends) if place < end] + [len(rows) - 1])


def some_lines(source):
    words = ["", "a", "bb", "cccc", "ddddddd", " ", "   ", "e" * 30]
    lines = []
    for number in range(source.randint(1, 20)):
        lines.append(" ".join(source.choice(words) for word in range(source.randint(0, 9)))[:60])
    return lines


def some_call(source, lines):
    line = source.randrange(len(lines))
    return source.choice([
        ACROSS, DOWN_SPLIT, CLOSE, UP, DOWN, LEFT, RIGHT, DOWN, RIGHT, focus(source.randint(0, 5)),
        goto(line, source.randint(0, len(lines[line]))), screen(source.randint(1, 40), source.randint(1, 20)),
    ])


class WalkTest(unittest.TestCase):
    def check_view(self, lines, answer):
        line, place, top_line, top_row, column, row, width, height = answer
        rows = [(number, which) for number in range(len(lines)) for which in range(len(wrapped(lines[number], width)))]
        point = rows.index((line, place_row(wrapped(lines[line], width), place)))
        top = rows.index((top_line, top_row))
        self.assertLessEqual(place, len(lines[line]))
        self.assertTrue(top <= point < top + height)
        self.assertTrue(width >= 3 and height >= 1)

    def check_rooms(self, size, views):
        cells = set()
        for column, row, width, height in [view[4:] for view in views]:
            room = {(x, y) for x in range(column, column + width) for y in range(row, row + height)}
            self.assertFalse(cells & room)
            self.assertTrue(all(x < size[0] and y < size[1] for x, y in room))
            cells |= room

    def test_points_are_seen_and_rooms_apart(self):
        source = random.Random(7)
        for walk in range(300):
            lines = some_lines(source)
            calls = [screen(source.randint(10, 40), source.randint(3, 20)), text(*lines)]
            calls += [some_call(source, lines) for number in range(source.randint(1, 26))]
            found = asked(*calls, *[focus(window) for window in range(12)])
            for answer in found[1:]:
                if len(answer) == 8:
                    self.check_view(lines, answer)
            sizes = [call[1:] for call, answer in zip(calls, found) if call[0] == 2 and answer[0] >= 0]
            self.check_rooms(sizes[-1], [answer for answer in found[-12:] if len(answer) == 8])

    def test_right_walks_through_all_places(self):
        lines = ["ab", "", "c  d", "ee"]
        places = [(number, place) for number, line in enumerate(lines) for place in range(len(line) + 1)]
        there = asked(screen(3, 2), text(*lines), *[RIGHT] * len(places))
        self.assertEqual([tuple(answer[:2]) for answer in there[1:-1]], places)
        self.assertEqual(there[-1], [-6])
        back = asked(screen(3, 2), text(*lines), goto(*places[-1]), *[LEFT] * len(places))
        self.assertEqual([tuple(answer[:2]) for answer in back[2:-1]], places[::-1])
        self.assertEqual(back[-1], [-6])
