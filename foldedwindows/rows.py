"""The rows into which lines are wrapped at a width."""

from foldedwindows.folds import seen_lines

BLANK = 32


class Row:
    """A row: its line, which of the line's rows it is, its bytes from start to end, if it's the line's last."""

    def __init__(self, line, number, start, end, last):
        self.line = line
        self.number = number
        self.start = start
        self.end = end
        self.last = last


def row_ends(text_line, width):
    """The places at which a line's rows end, in order."""
    ends = [row_end(text_line, 0, width)]
    while ends[-1] < len(text_line):
        ends.append(row_end(text_line, ends[-1], width))
    return ends


def row_end(text_line, start, width):
    """The place at which the row ends that begins at a place of a line."""
    edge = start + width
    if len(text_line) <= edge:
        return len(text_line)
    if text_line[edge] == BLANK:
        return behind_blanks(text_line, edge)
    return behind_last_blank(text_line, start, edge)


def behind_blanks(text_line, place):
    """The place behind all blanks in a row from a place on."""
    while place < len(text_line) and text_line[place] == BLANK:
        place += 1
    return place


def behind_last_blank(text_line, start, edge):
    """The place behind the last blank from start to edge, or edge, if there's none."""
    place = edge
    while place > start and text_line[place - 1] != BLANK:
        place -= 1
    return place if place > start else edge


def line_rows(line, text_line, width):
    """The rows of the line of a number."""
    ends = row_ends(text_line, width)
    starts = [0] + ends[:-1]
    last = len(ends) - 1
    return [Row(line, number, starts[number], ends[number], number == last) for number in range(len(ends))]


def all_rows(lines, folds, width):
    """The rows of all lines that are seen, in order."""
    rows = []
    for line in seen_lines(folds, len(lines)):
        rows.extend(line_rows(line, lines[line], width))
    return rows


def row_with_place(rows, line, place):
    """The number, among all rows, of the row in which a place of a seen line is."""
    # Of the line's rows that begin no later, the last: so the line's end is in its last row.
    return [number for number, row in enumerate(rows) if row.line == line and row.start <= place][-1]


def first_row_of(rows, line):
    """The number, among all rows, of the first row of a seen line."""
    return row_with_place(rows, line, 0)


def row_count_of(rows, line):
    """How many rows a line has."""
    return len([row for row in rows if row.line == line])
