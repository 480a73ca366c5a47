"""Writes calls as the interface does, and reads what is answered."""

from foldedwindows.screen import answers

BEYOND = 4294967295


def bytes_of(line):
    return [ord(sign) for sign in line]


def machine(*states):
    """Each state: its end, then its arms, tuples of four."""
    numbers = []
    for state in states:
        numbers += [state[0], len(state) - 1]
        for arm in state[1:]:
            numbers += list(arm)
    return [0, len(numbers)] + numbers


def text(*lines):
    """Each line: a text, or a list of bytes."""
    numbers = []
    for line in lines:
        numbers += [len(line)] + (bytes_of(line) if isinstance(line, str) else line)
    return [1, len(numbers)] + numbers


def screen(width, height):
    return [2, width, height]


def focus(window):
    return [5, window]


def goto(line, place):
    return [6, line, place]


ACROSS = [3, 1]
DOWN_SPLIT = [3, 0]
CLOSE = [4]
UP = [7]
DOWN = [8]
LEFT = [9]
RIGHT = [10]


def joined(calls):
    numbers = []
    for call in calls:
        numbers += call
    return numbers


def parted(numbers):
    """The answers, a list for each call."""
    found = []
    at = 0
    while at < len(numbers):
        after = at + 1 + numbers[at]
        found.append(numbers[at + 1:after])
        at = after
    return found


def asked(*calls):
    """All answers of the calls, a list for each."""
    if len(calls) > 40:
        raise ValueError("more than 40 calls")
    found = parted(answers(joined(calls)))
    if len(found) != len(calls):
        raise ValueError("not one answer a call")
    return found


def last(*calls):
    """The answer of the last of the calls."""
    return asked(*calls)[-1]


def points(*calls):
    """The point's line and place after each of the calls, or the refusal."""
    return [tuple(answer[:2]) if len(answer) > 1 else answer[0] for answer in asked(*calls)]


def tops(*calls):
    """The top's line and row after each of the calls, or the refusal."""
    return [tuple(answer[2:4]) if len(answer) > 1 else answer[0] for answer in asked(*calls)]


def rooms(windows, *calls):
    """The rooms of windows after the calls."""
    found = asked(*calls, *[focus(window) for window in windows])
    return [answer[4:] for answer in found[len(calls):]]


def check_refused(test, before, refused, refusal, windows=(0,)):
    """The call is refused, and all that can be asked then is as without it."""
    probes = [[call] + [focus(window) for window in windows] for call in (ACROSS, DOWN_SPLIT, CLOSE, UP, DOWN, LEFT, RIGHT)]
    for probe in probes + [[focus(window) for window in windows]]:
        with_it = asked(*before, refused, *probe)
        test.assertEqual(with_it.pop(len(before)), [refusal])
        test.assertEqual(with_it, asked(*before, *probe))
