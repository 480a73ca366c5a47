"""The calls on a screen, and what is answered of them."""

from foldedwindows.changes import join_line, part_line, put_byte, take_byte
from foldedwindows.folds import LEAST_LINES, folds_not_hiding, has_line, stand_together
from foldedwindows.frame import changed_cells, frame_cells
from foldedwindows.layout import first_window, fits, part_with_split, part_without
from foldedwindows.machine import read_states, states_allowed
from foldedwindows.moves import move_left, move_right, move_rows, scroll_rows
from foldedwindows.state import Screen, focus_view, settle_views, view_numbers
from foldedwindows.text import MOST_BYTES, MOST_LINES, byte_allowed, lines_allowed, read_lines
from foldedwindows.views import View, copied_view

NOT_AS_TOLD = -1
NO_SUCH_WINDOW = -2
TOO_MANY = -4
NO_ROOM = -5
NOWHERE = -6

MOST_WIDTH = 40
MOST_HEIGHT = 20
MOST_WINDOWS = 12
MOST_FOLDS = 8
MOST_SCROLLED = 100


def settled_answer(screen):
    """Settle all views, and answer the focus' one."""
    settle_views(screen)
    return view_numbers(screen, screen.focus)


def call_machine(screen, numbers):
    """machine (states)"""
    states = read_states(numbers)
    if not states_allowed(states):
        return [NOT_AS_TOLD]
    screen.machine = states
    return [len(states)]


def call_text(screen, numbers):
    """text (lines)"""
    lines = read_lines(numbers)
    if not lines_allowed(lines):
        return [NOT_AS_TOLD]
    screen.lines = lines
    screen.folds = []
    for window in list(screen.views):
        screen.views[window] = View(0, 0, 0, 0)
    return settled_answer(screen)


def call_screen(screen, numbers):
    """screen (width, height)"""
    width = numbers[0]
    height = numbers[1]
    if not (1 <= width <= MOST_WIDTH and 1 <= height <= MOST_HEIGHT):
        return [NOT_AS_TOLD]
    if not fits(screen.windows, width, height):
        return [NO_ROOM]
    screen.width = width
    screen.height = height
    screen.drawn = []
    return settled_answer(screen)


def call_split(screen, numbers):
    """split (across)"""
    window = screen.window_count
    if window == MOST_WINDOWS:
        return [TOO_MANY]
    windows = part_with_split(screen.windows, screen.focus, numbers[0], window)
    if not fits(windows, screen.width, screen.height):
        return [NO_ROOM]
    screen.windows = windows
    screen.window_count = window + 1
    screen.views[window] = copied_view(focus_view(screen))
    screen.focus = window
    return settled_answer(screen)


def call_close(screen, numbers):
    """close ()"""
    if len(screen.views) == 1:
        return [NOWHERE]
    screen.windows = part_without(screen.windows, screen.focus)
    screen.views.pop(screen.focus)
    screen.focus = first_window(screen.windows)
    return settled_answer(screen)


def call_focus(screen, numbers):
    """focus (window)"""
    if numbers[0] not in screen.views:
        return [NO_SUCH_WINDOW]
    screen.focus = numbers[0]
    return settled_answer(screen)


def call_goto(screen, numbers):
    """goto (line, place)"""
    line = numbers[0]
    place = numbers[1]
    if line >= len(screen.lines) or place > len(screen.lines[line]):
        return [NOT_AS_TOLD]
    screen.folds = folds_not_hiding(screen.folds, line)
    view = focus_view(screen)
    view.line = line
    view.place = place
    return settled_answer(screen)


def moved_answer(screen, moved):
    """The answer of a move that there was, or wasn't."""
    return settled_answer(screen) if moved else [NOWHERE]


def call_up(screen, numbers):
    """up ()"""
    return moved_answer(screen, move_rows(screen, -1))


def call_down(screen, numbers):
    """down ()"""
    return moved_answer(screen, move_rows(screen, 1))


def call_left(screen, numbers):
    """left ()"""
    return moved_answer(screen, move_left(screen))


def call_right(screen, numbers):
    """right ()"""
    return moved_answer(screen, move_right(screen))


def call_typed(screen, numbers):
    """typed (byte)"""
    if not byte_allowed(numbers[0]):
        return [NOT_AS_TOLD]
    if len(screen.lines[focus_view(screen).line]) == MOST_BYTES:
        return [NO_ROOM]
    put_byte(screen, numbers[0])
    return settled_answer(screen)


def call_enter(screen, numbers):
    """enter ()"""
    if len(screen.lines) == MOST_LINES:
        return [NO_ROOM]
    part_line(screen)
    return settled_answer(screen)


def call_back(screen, numbers):
    """back ()"""
    point = focus_view(screen)
    if point.place > 0:
        take_byte(screen)
        return settled_answer(screen)
    if point.line == 0:
        return [NOWHERE]
    if len(screen.lines[point.line - 1]) + len(screen.lines[point.line]) > MOST_BYTES:
        return [NO_ROOM]
    join_line(screen)
    return settled_answer(screen)


def call_fold(screen, numbers):
    """fold (from, to)"""
    fold = (numbers[0], numbers[1])
    if fold[1] - fold[0] < LEAST_LINES or fold[1] > len(screen.lines):
        return [NOT_AS_TOLD]
    if fold in screen.folds or not all([stand_together(fold, other) for other in screen.folds]):
        return [TOO_MANY]
    if len(screen.folds) == MOST_FOLDS:
        return [NO_ROOM]
    screen.folds = screen.folds + [fold]
    return settled_answer(screen)


def call_unfold(screen, numbers):
    """unfold ()"""
    line = focus_view(screen).line
    folds = [fold for fold in screen.folds if not has_line(fold, line)]
    if len(folds) == len(screen.folds):
        return [NOWHERE]
    screen.folds = folds
    return settled_answer(screen)


def call_scroll(screen, numbers):
    """scroll (back, rows)"""
    if numbers[1] > MOST_SCROLLED:
        return [NOT_AS_TOLD]
    scroll_rows(screen, numbers[0], numbers[1])
    return settled_answer(screen)


def call_frame(screen, numbers):
    """frame ()"""
    answer = []
    for cell in frame_cells(screen):
        answer.extend(cell)
    return answer


def call_draw(screen, numbers):
    """draw ()"""
    cells = frame_cells(screen)
    changed = changed_cells(screen.drawn, cells)
    answer = [len(changed)]
    for number in changed:
        answer.append(number)
        answer.extend(cells[number])
    screen.drawn = cells
    return answer


def call_view(screen, numbers):
    """view (window)"""
    if numbers[0] not in screen.views:
        return [NO_SUCH_WINDOW]
    return view_numbers(screen, numbers[0])


def call_shows(screen, numbers):
    """shows ()"""
    answer = [len(screen.lines)]
    for line in screen.lines:
        answer.append(len(line))
        answer.extend(line)
    return answer


CALLS = {
    0: call_machine,
    1: call_text,
    2: call_screen,
    3: call_split,
    4: call_close,
    5: call_focus,
    6: call_goto,
    7: call_up,
    8: call_down,
    9: call_left,
    10: call_right,
    11: call_typed,
    12: call_enter,
    13: call_back,
    14: call_fold,
    15: call_unfold,
    16: call_scroll,
    17: call_frame,
    18: call_draw,
    19: call_view,
    20: call_shows,
}

# Calls whose numbers are one row, with how many there are ahead of it.
ROW_CALLS = (0, 1)

# How many numbers each other call has, if any.
NUMBER_COUNTS = {2: 2, 3: 1, 5: 1, 6: 2, 11: 1, 14: 2, 16: 2, 19: 1}


def numbers_begin(calls, at):
    """Where the numbers of the call begin that stands at a place of the list."""
    return at + 2 if calls[at] in ROW_CALLS else at + 1


def numbers_end(calls, at):
    """Where the numbers of the call end that stands at a place of the list."""
    if calls[at] in ROW_CALLS:
        return at + 2 + calls[at + 1]
    return at + 1 + NUMBER_COUNTS.get(calls[at], 0)


def answers(calls):
    """The answers of all calls on a new screen, each with how many numbers it has ahead of it."""
    screen = Screen()
    given = []
    at = 0
    while at < len(calls):
        end = numbers_end(calls, at)
        numbers = calls[numbers_begin(calls, at):end]
        answer = CALLS[calls[at]](screen, numbers)
        given.append(len(answer))
        given.extend(answer)
        at = end
    return given
