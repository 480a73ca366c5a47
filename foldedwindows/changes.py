"""Changes of the text at the focus' point, and what they do to points, tops and folds.

Whether a change is allowed has been asked before.
"""

from foldedwindows.folds import folds_not_hiding, joined_folds, parted_folds, up_behind
from foldedwindows.state import focus_view


def put_byte(screen, byte):
    """A byte stands at the point then."""
    point = focus_view(screen)
    line = point.line
    place = point.place
    text_line = screen.lines[line]
    screen.lines[line] = text_line[:place] + [byte] + text_line[place:]
    for view in screen.views.values():
        if view.line == line and view.place > place:
            view.place += 1
    point.place = place + 1


def part_line(screen):
    """The point's line goes into two."""
    point = focus_view(screen)
    line = point.line
    place = point.place
    text_line = screen.lines[line]
    halves = [text_line[:place], text_line[place:]]
    screen.lines = screen.lines[:line] + halves + screen.lines[line + 1:]
    screen.folds = parted_folds(screen.folds, line)
    for view in screen.views.values():
        part_view(view, line, place)
    point.line = line + 1
    point.place = 0


def part_view(view, line, place):
    """Bring a view along with its bytes when a line goes into two at a place."""
    if view.line == line and view.place > place:
        view.line = line + 1
        view.place -= place
    else:
        view.line = up_behind(view.line, line)
    view.top_line = up_behind(view.top_line, line)


def take_byte(screen):
    """The byte ahead of the point goes."""
    point = focus_view(screen)
    line = point.line
    place = point.place
    text_line = screen.lines[line]
    screen.lines[line] = text_line[:place - 1] + text_line[place:]
    for view in screen.views.values():
        if view.line == line and view.place >= place:
            view.place -= 1


def join_line(screen):
    """The point's line is joined to the one before, which is seen then."""
    line = focus_view(screen).line
    before = screen.lines[line - 1]
    whole = before + screen.lines[line]
    screen.lines = screen.lines[:line - 1] + [whole] + screen.lines[line + 1:]
    screen.folds = joined_folds(folds_not_hiding(screen.folds, line - 1), line)
    for view in screen.views.values():
        join_view(view, line, len(before))


def join_view(view, line, length):
    """Bring a view along with its bytes when a line is joined to one that had so many bytes."""
    if view.line == line:
        view.place += length
    if view.line >= line:
        view.line -= 1
    if view.top_line == line:
        view.top_row = 0
    if view.top_line >= line:
        view.top_line -= 1
