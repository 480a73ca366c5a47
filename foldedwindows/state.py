"""All that is kept of one screen between its calls."""

from foldedwindows.layout import Room, window_rooms
from foldedwindows.rows import all_rows
from foldedwindows.views import View, settle_view

FIRST_WIDTH = 20
FIRST_HEIGHT = 6


class Screen:
    """A screen: its size, its text, folds and machine, its windows and their views."""

    def __init__(self):
        self.width = FIRST_WIDTH
        self.height = FIRST_HEIGHT
        self.lines = [[]]
        self.folds = []
        self.machine = []
        # The cells that were drawn last; none, if nothing was.
        self.drawn = []
        self.windows = 0
        self.views = {0: View(0, 0, 0, 0)}
        self.focus = 0
        # Numbers of closed windows are not given again, so the windows that have been are counted.
        self.window_count = 1


def screen_rooms(screen):
    """The room of each window."""
    return window_rooms(screen.windows, full_room(screen))


def full_room(screen):
    """The room that all windows have together."""
    return Room(0, 0, screen.width, screen.height)


def window_rows(screen, width):
    """All rows at a window's width."""
    return all_rows(screen.lines, screen.folds, width)


def focus_view(screen):
    """The view of the window that has the focus."""
    return screen.views[screen.focus]


def settle_views(screen):
    """Settle the view of each window."""
    rooms = screen_rooms(screen)
    for window in rooms:
        settle_view(screen.views[window], screen.lines, screen.folds, rooms[window])


def view_numbers(screen, window):
    """The view of a window as it is answered."""
    view = screen.views[window]
    room = screen_rooms(screen)[window]
    return [view.line, view.place, view.top_line, view.top_row, room.column, room.row, room.width, room.height]
