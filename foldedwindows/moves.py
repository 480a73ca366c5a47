"""Moves of the focus' point and top.

Each move of the point alone says if there is such a row, or place; if not, it changes nothing.
"""

from foldedwindows.folds import seen_lines
from foldedwindows.state import focus_view, screen_rooms, window_rows
from foldedwindows.views import point_number, put_top, top_number


def move_rows(screen, step):
    """To the row that is a step further among all rows."""
    view = focus_view(screen)
    rows = window_rows(screen, screen_rooms(screen)[screen.focus].width)
    number = point_number(view, rows)
    if not 0 <= number + step < len(rows):
        return False
    row = rows[number + step]
    view.place = min(row.start + view.place - rows[number].start, last_place(row))
    view.line = row.line
    return True


def last_place(row):
    """The last place that is in a row."""
    # The place behind a row's last byte is in the next row, if the line has one.
    return row.end if row.last else row.end - 1


def move_left(screen):
    """One place back, or to the end of the line before that is seen."""
    view = focus_view(screen)
    if view.place > 0:
        view.place -= 1
        return True
    if view.line == 0:
        return False
    # Line 0 is always seen, so there is one before.
    view.line = seen_lines(screen.folds, view.line)[-1]
    view.place = len(screen.lines[view.line])
    return True


def move_right(screen):
    """One place on, or to the beginning of the next line that is seen."""
    view = focus_view(screen)
    if view.place < len(screen.lines[view.line]):
        view.place += 1
        return True
    behind = [line for line in seen_lines(screen.folds, len(screen.lines)) if line > view.line]
    if len(behind) == 0:
        return False
    view.line = behind[0]
    view.place = 0
    return True


def scroll_rows(screen, back, count):
    """The top goes so many rows back (1) or on (0), and the point just so far that it is seen."""
    view = focus_view(screen)
    room = screen_rooms(screen)[screen.focus]
    rows = window_rows(screen, room.width)
    point = point_number(view, rows)
    top = top_number(view, rows)
    top = max(top - count, 0) if back == 1 else min(top + count, len(rows) - 1)
    put_top(view, rows[top])
    nearest = min(max(point, top), top + room.height - 1)
    if nearest != point:
        view.line = rows[nearest].line
        view.place = rows[nearest].start
