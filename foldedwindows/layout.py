"""How the screen is split into the rooms of its windows.

A part is a window, as its number, or two parts.
"""

LEAST_WIDTH = 3
LEAST_HEIGHT = 1


class Parts:
    """Two parts, across (1, side by side) or down (0)."""

    def __init__(self, across, first, second):
        self.across = across
        self.first = first
        self.second = second


class Room:
    """Cells of the screen: the first column, the first row, how wide, how high."""

    def __init__(self, column, row, width, height):
        self.column = column
        self.row = row
        self.width = width
        self.height = height


def least_size(part):
    """The width and the height that a part needs."""
    if isinstance(part, int):
        return (LEAST_WIDTH, LEAST_HEIGHT)
    first = least_size(part.first)
    second = least_size(part.second)
    if part.across == 1:
        return (first[0] + 1 + second[0], max(first[1], second[1]))
    return (max(first[0], second[0]), first[1] + 1 + second[1])


def fits(part, width, height):
    """If a part needs no more than so much room."""
    least = least_size(part)
    return least[0] <= width and least[1] <= height


def first_share(cells, first_needs, second_needs):
    """How many of the cells, the line between not counted, the first of two parts gets."""
    return max(min(cells // 2, cells - second_needs), first_needs)


def window_rooms(part, room):
    """The room of each window of a part that has a room."""
    if isinstance(part, int):
        return {part: room}
    pair = rooms_of_both(part, room)
    rooms = window_rooms(part.first, pair[0])
    rooms.update(window_rooms(part.second, pair[1]))
    return rooms


def lines_between(part, room):
    """The rooms of the lines between a part's windows, each behind 1, if it's between parts that are across, or 0."""
    if isinstance(part, int):
        return []
    pair = rooms_of_both(part, room)
    if part.across == 1:
        line = Room(pair[1].column - 1, room.row, 1, room.height)
    else:
        line = Room(room.column, pair[1].row - 1, room.width, 1)
    return [(part.across, line)] + lines_between(part.first, pair[0]) + lines_between(part.second, pair[1])


def rooms_of_both(part, room):
    """The rooms of two parts."""
    return rooms_across(part, room) if part.across == 1 else rooms_down(part, room)


def rooms_across(part, room):
    """The rooms of two parts side by side."""
    cells = room.width - 1
    share = first_share(cells, least_size(part.first)[0], least_size(part.second)[0])
    first = Room(room.column, room.row, share, room.height)
    second = Room(room.column + share + 1, room.row, cells - share, room.height)
    return (first, second)


def rooms_down(part, room):
    """The rooms of two parts, one below the other."""
    cells = room.height - 1
    share = first_share(cells, least_size(part.first)[1], least_size(part.second)[1])
    first = Room(room.column, room.row, room.width, share)
    second = Room(room.column, room.row + share + 1, room.width, cells - share)
    return (first, second)


def part_with_split(part, window, across, other):
    """A part in which a window is the first of two, another one the second."""
    if isinstance(part, int):
        return Parts(across, part, other) if part == window else part
    first = part_with_split(part.first, window, across, other)
    second = part_with_split(part.second, window, across, other)
    return Parts(part.across, first, second)


def part_without(part, window):
    """A part of several windows without one of them: the part beside that takes its place."""
    if isinstance(part, int):
        return part
    if part.first == window:
        return part.second
    if part.second == window:
        return part.first
    return Parts(part.across, part_without(part.first, window), part_without(part.second, window))


def first_window(part):
    """The first part's first window, and so on."""
    while not isinstance(part, int):
        part = part.first
    return part
