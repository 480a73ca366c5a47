"""Writes calls as the interface does, and reads what is answered."""

from foldedwindows.screen import answers

BEYOND = 4294967295


def bytes_of(line):
    return [ord(sign) for sign in line]


def machine(*states):
    """Each state: its end, then its arms, tuples of four."""
    numbers = []
    for state in states:
        numbers += [state[0], len(state) - 1]
        for arm in state[1:]:
            numbers += list(arm)
    return [0, len(numbers)] + numbers


def text(*lines):
    """Each line: a text, or a list of bytes."""
    numbers = []
    for line in lines:
        numbers += [len(line)] + (bytes_of(line) if isinstance(line, str) else line)
    return [1, len(numbers)] + numbers


def screen(width, height):
    return [2, width, height]


def focus(window):
    return [5, window]


def goto(line, place):
    return [6, line, place]


def typed(byte):
    """A byte, or the sign it stands for."""
    return [11, ord(byte) if isinstance(byte, str) else byte]


def fold(first, end):
    return [14, first, end]


def scroll_back(rows):
    return [16, 1, rows]


def scroll_on(rows):
    return [16, 0, rows]


def view(window):
    return [19, window]


ACROSS = [3, 1]
DOWN_SPLIT = [3, 0]
CLOSE = [4]
UP = [7]
DOWN = [8]
LEFT = [9]
RIGHT = [10]
ENTER = [12]
BACK = [13]
UNFOLD = [15]
FRAME = [17]
DRAW = [18]
SHOWS = [20]


def joined(calls):
    numbers = []
    for call in calls:
        numbers += call
    return numbers


def parted(numbers):
    """The answers, a list for each call."""
    found = []
    at = 0
    while at < len(numbers):
        after = at + 1 + numbers[at]
        found.append(numbers[at + 1:after])
        at = after
    return found


def asked(*calls):
    """All answers of the calls, a list for each."""
    if len(calls) > 40:
        raise ValueError("more than 40 calls")
    found = parted(answers(joined(calls)))
    if len(found) != len(calls):
        raise ValueError("not one answer a call")
    return found


def last(*calls):
    """The answer of the last of the calls."""
    return asked(*calls)[-1]


def points(*calls):
    """The point's line and place after each of the calls, or the refusal."""
    return [tuple(answer[:2]) if len(answer) > 1 else answer[0] for answer in asked(*calls)]


def tops(*calls):
    """The top's line and row after each of the calls, or the refusal."""
    return [tuple(answer[2:4]) if len(answer) > 1 else answer[0] for answer in asked(*calls)]


def rooms(windows, *calls):
    """The rooms of windows after the calls."""
    found = asked(*calls, *[focus(window) for window in windows])
    return [answer[4:] for answer in found[len(calls):]]


def views(windows, *calls):
    """The points and tops of windows after the calls, four numbers each."""
    found = asked(*calls, *[view(window) for window in windows])
    return [tuple(answer[:4]) for answer in found[len(calls):]]


def lines_after(*calls):
    """The lines that are shown after the calls."""
    numbers = last(*calls, SHOWS)
    if numbers[0] != len(parted(numbers[1:])):
        raise ValueError("not so many lines as told")
    return ["".join(chr(byte) for byte in line) for line in parted(numbers[1:])]


def in_rows(width, cells):
    return [cells[at:at + width] for at in range(0, len(cells), width)]


def picture(width, *calls):
    """The signs of the frame after the calls, a text for each row."""
    return ["".join(chr(byte) for byte in row) for row in in_rows(width, last(*calls, FRAME)[::2])]


def colours(width, *calls):
    """The colours of the frame after the calls, a list for each row."""
    return in_rows(width, last(*calls, FRAME)[1::2])


def points_of_frame(width, *calls):
    """Where the frame has cells of points: column, row, 16 or 8."""
    found = []
    for number, row in enumerate(colours(width, *calls)):
        found += [(column, number, colour // 8 * 8) for column, colour in enumerate(row) if colour > 7]
    return found


def check_refused(test, before, refused, refusal, windows=(0,)):
    """The call is refused, and all that can be asked then is as without it."""
    looked = [view(window) for window in windows] + [SHOWS, FRAME, DRAW]
    probes = [[], [ACROSS], [DOWN_SPLIT], [CLOSE], [UP], [DOWN], [LEFT], [RIGHT], [ENTER], [BACK], [UNFOLD],
              [typed("x")], [scroll_on(1)], [scroll_back(1)], [fold(0, 2)], [goto(0, 0), UNFOLD]]
    for probe in [probe + looked for probe in probes]:
        with_it = asked(*before, refused, *probe)
        test.assertEqual(with_it.pop(len(before)), [refusal])
        test.assertEqual(with_it, asked(*before, *probe))
