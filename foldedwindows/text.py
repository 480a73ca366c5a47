"""The text: a list of lines, each a list of bytes."""

MOST_LINES = 20
MOST_BYTES = 60
FIRST_BYTE = 32
LAST_BYTE = 126


def read_lines(numbers):
    """The lines that a list of whole numbers writes one behind another."""
    lines = []
    at = 0
    while at < len(numbers):
        after = at + 1 + numbers[at]
        lines.append(numbers[at + 1:after])
        at = after
    return lines


def lines_allowed(lines):
    """If the lines are a text."""
    if not 1 <= len(lines) <= MOST_LINES:
        return False
    return all([line_allowed(line) for line in lines])


def line_allowed(line):
    """If the bytes are a line of a text."""
    return len(line) <= MOST_BYTES and all([byte_allowed(byte) for byte in line])


def byte_allowed(byte):
    """If the byte may stand in a text."""
    return FIRST_BYTE <= byte <= LAST_BYTE
