"""The frame: the screen's cells, row by row from above, each a tuple of a byte and a colour."""

from foldedwindows.folds import begins_fold
from foldedwindows.layout import lines_between
from foldedwindows.machine import text_colours
from foldedwindows.state import full_room, screen_rooms, window_rows
from foldedwindows.views import point_number, top_number

EMPTY = (32, 0)
FOLDED = (43, 0)
LINE_ACROSS = (124, 0)
LINE_DOWN = (45, 0)
FOCUS_POINT = 16
OTHER_POINT = 8


def frame_cells(screen):
    """All cells of the frame."""
    cells = [EMPTY] * (screen.width * screen.height)
    for across, line in lines_between(screen.windows, full_room(screen)):
        put_line(cells, screen.width, line, LINE_ACROSS if across == 1 else LINE_DOWN)
    colours = text_colours(screen.machine, screen.lines)
    rooms = screen_rooms(screen)
    for window in rooms:
        put_window(cells, screen, window, rooms[window], colours)
    return cells


def put_line(cells, screen_width, room, cell):
    """The same cell stands in all of a room."""
    for row in range(room.row, room.row + room.height):
        for column in range(room.column, room.column + room.width):
            cells[row * screen_width + column] = cell


def put_window(cells, screen, window, room, colours):
    """What a window shows stands in its room."""
    view = screen.views[window]
    rows = window_rows(screen, room.width)
    top = top_number(view, rows)
    for number, row in enumerate(rows[top:top + room.height]):
        begin = (room.row + number) * screen.width + room.column
        put_row(cells, begin, row_cells(screen, row, colours)[:room.width])
    point = point_number(view, rows)
    begin = (room.row + point - top) * screen.width + room.column
    # Bytes of a row that are beyond the width have no cell of their own.
    column = min(view.place - rows[point].start, room.width - 1)
    put_point(cells, begin + column, FOCUS_POINT if window == screen.focus else OTHER_POINT)


def put_row(cells, begin, row):
    """Cells of a row stand from a number on."""
    for column, cell in enumerate(row):
        cells[begin + column] = cell


def put_point(cells, number, more):
    """The cell of a number has so much more as colour."""
    byte = cells[number][0]
    colour = cells[number][1]
    cells[number] = (byte, colour + more)


def row_cells(screen, row, colours):
    """The cells of a row: its bytes, and the sign of a fold behind the line's last one."""
    text_line = screen.lines[row.line]
    cells = [(text_line[place], colours[row.line][place]) for place in range(row.start, row.end)]
    if row.last and begins_fold(screen.folds, row.line):
        cells.append(FOLDED)
    return cells


def changed_cells(drawn, cells):
    """The numbers of the cells that are otherwise than when they were drawn; of all, if nothing was."""
    if len(drawn) == 0:
        return list(range(len(cells)))
    return [number for number, cell in enumerate(cells) if cell != drawn[number]]
