"""The view of a window: what is kept of it, and how it is settled."""

from foldedwindows.folds import seen_line
from foldedwindows.rows import all_rows, first_row_of, row_count_of, row_with_place


class View:
    """A view: its point (a line, a place of it) and its top (a line, which of its rows)."""

    def __init__(self, line, place, top_line, top_row):
        self.line = line
        self.place = place
        self.top_line = top_line
        self.top_row = top_row


def copied_view(view):
    """Another view with the same point and top."""
    return View(view.line, view.place, view.top_line, view.top_row)


def settle_view(view, lines, folds, room):
    """Bring the point and the top to what is seen, then the top to where the point is seen."""
    rows = all_rows(lines, folds, room.width)
    settle_point(view, lines, folds)
    settle_top(view, lines, folds, rows)
    follow_point(view, rows, room.height)


def seen_line_of_text(lines, folds, line):
    """The line seen for a line, or for the last one, if there are fewer."""
    return seen_line(folds, min(line, len(lines) - 1))


def settle_point(view, lines, folds):
    """Bring the point to a line that is seen, and to a place of it."""
    view.line = seen_line_of_text(lines, folds, view.line)
    view.place = min(view.place, len(lines[view.line]))


def settle_top(view, lines, folds, rows):
    """Bring the top to a row that is seen."""
    line = seen_line_of_text(lines, folds, view.top_line)
    if line == view.top_line:
        view.top_row = min(view.top_row, row_count_of(rows, line) - 1)
    else:
        view.top_row = 0
    view.top_line = line


def follow_point(view, rows, height):
    """Move the top just so far that the point's row is among those that the window shows."""
    point = point_number(view, rows)
    top = top_number(view, rows)
    if point < top:
        top = point
    elif point >= top + height:
        top = point + 1 - height
    put_top(view, rows[top])


def point_number(view, rows):
    """The number, among all rows, of the row in which a settled view's point is."""
    return row_with_place(rows, view.line, view.place)


def top_number(view, rows):
    """The number, among all rows, of a settled view's top."""
    return first_row_of(rows, view.top_line) + view.top_row


def put_top(view, row):
    """A row is the view's top."""
    view.top_line = row.line
    view.top_row = row.number
