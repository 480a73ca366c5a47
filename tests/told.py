"""The document told once more, another way than the program does: slow and plain, to be held beside it."""

import copy

STATES, LINES, SIZE, SPLIT, CLOSE, FOCUS, GOTO, UP, DOWN, LEFT, RIGHT = range(11)
TYPE, ENTER, BACK, FOLD, UNFOLD, SCROLL, FRAME, DRAW, VIEW, SHOWS = range(11, 21)


class Refused(Exception):
    pass


def refuse(number, wrong):
    if wrong:
        raise Refused(number)


def wrapped(line, width):
    """A line's rows."""
    rows = []
    while len(line) > width:
        if line[width] == " ":
            row = line[:width] + " " * (len(line[width:]) - len(line[width:].lstrip(" ")))
        else:
            row = line[:line[:width].rfind(" ") + 1] or line[:width]
        rows.append(row)
        line = line[len(row):]
    return rows + [line] if line or not rows else rows


def needs(part):
    """The least width and height."""
    if isinstance(part, int):
        return 3, 1
    across, (w, h), (v, k) = part[0], needs(part[1]), needs(part[2])
    return (w + 1 + v, max(h, k)) if across else (max(w, v), h + 1 + k)


def laid_out(part, x, y, w, h, rooms, between):
    """The rooms of windows, and the cells of lines between them."""
    if isinstance(part, int):
        rooms[part] = (x, y, w, h)
        return
    across, one, two = part
    which = 0 if across else 1
    n = (w, h)[which] - 1
    share = max(min(n // 2, n - needs(two)[which]), needs(one)[which])
    if across:
        laid_out(one, x, y, share, h, rooms, between)
        laid_out(two, x + share + 1, y, n - share, h, rooms, between)
        between.update({(x + share, y + down): "|" for down in range(h)})
    else:
        laid_out(one, x, y, w, share, rooms, between)
        laid_out(two, x, y + share + 1, w, n - share, rooms, between)
        between.update({(x + right, y + share): "-" for right in range(w)})


def windows_of(part):
    return [part] if isinstance(part, int) else windows_of(part[1]) + windows_of(part[2])


def with_part(part, window, other):
    """The part with another part in a window's place; None takes it away."""
    if part == window:
        return other
    if isinstance(part, int):
        return part
    one, two = with_part(part[1], window, other), with_part(part[2], window, other)
    return two if one is None else one if two is None else (part[0], one, two)


class Told:
    def __init__(self):
        self.size, self.tree, self.focus, self.made = (20, 6), 0, 0, 1
        self.points, self.tops = {0: (0, 0)}, {0: (0, 0)}
        self.lines, self.folds, self.states, self.drawn = [""], set(), [], None

    def answer(self, call):
        """What is answered of a call, written as the interface writes it."""
        before = copy.deepcopy(self.__dict__)
        numbers = call[2:] if call[0] in (STATES, LINES) else call[1:]
        try:
            found = getattr(self, "call%d" % call[0])(*([numbers] if call[0] in (STATES, LINES) else numbers))
        except Refused as refused:
            self.__dict__ = before
            return [refused.args[0]]
        self.settle()
        return self.call19(self.focus) if found is None else found

    def rooms(self):
        rooms = {}
        laid_out(self.tree, 0, 0, *self.size, rooms, {})
        return rooms

    def hidden(self):
        return {line for first, end in self.folds for line in range(first + 1, end)}

    def seen(self, line):
        line = min(line, len(self.lines) - 1)
        while line in self.hidden():
            line -= 1
        return line

    def rows(self, width):
        """Of each row its line, which of it, its beginning, its end, as far as places are in it."""
        rows = []
        for line, signs in enumerate(self.lines):
            if line not in self.hidden():
                begin = 0
                pieces = wrapped(signs, width)
                for which, piece in enumerate(pieces):
                    end = begin + len(piece)
                    rows.append((line, which, begin, end + 1 if which == len(pieces) - 1 else end))
                    begin = end
        return rows

    def row_of(self, rows, point):
        return [number for number, row in enumerate(rows) if row[0] == point[0] and row[2] <= point[1] < row[3]][0]

    def settle(self):
        for window, (x, y, width, height) in self.rooms().items():
            line = self.seen(self.points[window][0])
            self.points[window] = line, min(self.points[window][1], len(self.lines[line]))
            line, which = self.seen(self.tops[window][0]), self.tops[window][1]
            last = len(wrapped(self.lines[line], width)) - 1
            self.tops[window] = line, min(which, last) if line == self.tops[window][0] else 0
            rows = self.rows(width)
            tops = [row[:2] for row in rows]
            point, top = self.row_of(rows, self.points[window]), tops.index(self.tops[window])
            self.tops[window] = tops[point if point < top else point + 1 - height if point >= top + height else top]

    def colours(self):
        found, state = [], 0
        for signs in self.lines:
            found.append([])
            for sign in signs:
                arms = self.states[state][1] if self.states else []
                arm = ([arm for arm in arms if ord(sign) in range(arm[0], arm[1] + 1)] + [(0, 0, 0, state)])[0]
                found[-1].append(arm[2])
                state = arm[3]
            state = self.states[state][0] if self.states else 0
        return found

    def cells(self):
        width, height = self.size
        cells = {(x, y): (32, 0) for y in range(height) for x in range(width)}
        rooms, between, colours = {}, {}, self.colours()
        laid_out(self.tree, 0, 0, width, height, rooms, between)
        cells.update({place: (ord(sign), 0) for place, sign in between.items()})
        for window, (x, y, wide, high) in rooms.items():
            rows = self.rows(wide)
            top = [row[:2] for row in rows].index(self.tops[window])
            for down, (line, which, begin, end) in enumerate(rows[top:top + high]):
                for right in range(wide):
                    place = begin + right
                    if place < min(end, len(self.lines[line])):
                        cells[x + right, y + down] = ord(self.lines[line][place]), colours[line][place]
                    elif place == len(self.lines[line]) < end and line in [first for first, behind in self.folds]:
                        cells[x + right, y + down] = ord("+"), 0
            number = self.row_of(rows, self.points[window])
            at = x + min(self.points[window][1] - rows[number][2], wide - 1), y + number - top
            cells[at] = cells[at][0], cells[at][1] + (16 if window == self.focus else 8)
        return [cells[x, y] for y in range(height) for x in range(width)]

    def opened(self, line):
        self.folds = {(first, end) for first, end in self.folds if line not in range(first + 1, end)}

    def call0(self, numbers):
        states, rest = [], list(numbers)
        while rest:
            end, count = rest[:2]
            states.append((end, [tuple(rest[2 + 4 * arm:6 + 4 * arm]) for arm in range(count)]))
            rest = rest[2 + 4 * count:]
        refuse(-1, len(states) not in range(1, 7))
        for end, arms in states:
            refuse(-1, end >= len(states) or len(arms) > 6)
            for first, last, colour, after in arms:
                refuse(-1, first > last or last > 255 or colour > 7 or after >= len(states))
        self.states = states
        return [len(states)]

    def call1(self, numbers):
        lines, rest = [], list(numbers)
        while rest:
            lines.append(rest[1:1 + rest[0]])
            rest = rest[1 + rest[0]:]
        refuse(-1, len(lines) not in range(1, 21) or max(len(line) for line in lines) > 60)
        refuse(-1, any(byte not in range(32, 127) for line in lines for byte in line))
        self.lines, self.folds = ["".join(chr(byte) for byte in line) for line in lines], set()
        self.points = {window: (0, 0) for window in self.points}
        self.tops = dict(self.points)

    def call2(self, width, height):
        refuse(-1, width not in range(1, 41) or height not in range(1, 21))
        refuse(-5, needs(self.tree)[0] > width or needs(self.tree)[1] > height)
        self.size, self.drawn = (width, height), None

    def call3(self, across):
        refuse(-4, self.made == 12)
        self.tree = with_part(self.tree, self.focus, (across, self.focus, self.made))
        refuse(-5, needs(self.tree)[0] > self.size[0] or needs(self.tree)[1] > self.size[1])
        self.points[self.made], self.tops[self.made] = self.points[self.focus], self.tops[self.focus]
        self.focus = self.made
        self.made += 1

    def call4(self):
        refuse(-6, self.tree == self.focus)
        self.tree = with_part(self.tree, self.focus, None)
        self.points.pop(self.focus)
        self.tops.pop(self.focus)
        self.focus = windows_of(self.tree)[0]

    def call5(self, window):
        refuse(-2, window not in windows_of(self.tree))
        self.focus = window

    def call6(self, line, place):
        refuse(-1, line >= len(self.lines) or place > len(self.lines[line]))
        self.opened(line)
        self.points[self.focus] = line, place

    def moved(self, step):
        rows = self.rows(self.rooms()[self.focus][2])
        number = self.row_of(rows, self.points[self.focus])
        refuse(-6, number + step not in range(len(rows)))
        line, which, begin, end = rows[number + step]
        self.points[self.focus] = line, min(begin + self.points[self.focus][1] - rows[number][2], end - 1)

    def call7(self):
        self.moved(-1)

    def call8(self):
        self.moved(1)

    def walked(self, step):
        places = [(line, place) for line, signs in enumerate(self.lines) if line not in self.hidden()
                  for place in range(len(signs) + 1)]
        number = places.index(self.points[self.focus]) + step
        refuse(-6, number not in range(len(places)))
        self.points[self.focus] = places[number]

    def call9(self):
        self.walked(-1)

    def call10(self):
        self.walked(1)

    def call11(self, byte):
        line, place = self.points[self.focus]
        signs = self.lines[line]
        refuse(-1, byte not in range(32, 127))
        refuse(-5, len(signs) == 60)
        self.lines[line] = signs[:place] + chr(byte) + signs[place:]
        for window, (own, at) in self.points.items():
            if own == line and (at > place or window == self.focus):
                self.points[window] = own, at + 1

    def call12(self):
        line, place = self.points[self.focus]
        refuse(-5, len(self.lines) == 20)
        self.lines[line:line + 1] = [self.lines[line][:place], self.lines[line][place:]]
        for window, (own, at) in self.points.items():
            if own > line:
                self.points[window] = own + 1, at
            elif own == line and (at > place or window == self.focus):
                self.points[window] = own + 1, at - place
        self.tops = {window: (own + (own > line), which) for window, (own, which) in self.tops.items()}
        self.folds = {(first + (first > line), end + (end > line)) for first, end in self.folds}

    def call13(self):
        line, place = self.points[self.focus]
        refuse(-6, (line, place) == (0, 0))
        if place:
            self.lines[line] = self.lines[line][:place - 1] + self.lines[line][place:]
            self.points = {window: (own, at - (own == line and at >= place)) for window, (own, at) in self.points.items()}
            return
        length = len(self.lines[line - 1])
        refuse(-5, length + len(self.lines[line]) > 60)
        self.opened(line - 1)
        self.lines[line - 1:line + 1] = [self.lines[line - 1] + self.lines[line]]
        self.points = {window: (own - (own >= line), at + length * (own == line)) for window, (own, at) in self.points.items()}
        self.tops = {window: (own - (own >= line), which * (own != line)) for window, (own, which) in self.tops.items()}
        folds = {(first - (first >= line), end - (end > line)) for first, end in self.folds}
        self.folds = {(first, end) for first, end in folds if end - first >= 2}

    def call14(self, first, end):
        refuse(-1, first + 2 > end or end > len(self.lines))
        own = set(range(first, end))
        for other in [set(range(*fold)) for fold in self.folds]:
            refuse(-4, own == other or not (own <= other or other <= own or not own & other))
        refuse(-5, len(self.folds) == 8)
        self.folds.add((first, end))

    def call15(self):
        stay = {fold for fold in self.folds if self.points[self.focus][0] not in range(*fold)}
        refuse(-6, stay == self.folds)
        self.folds = stay

    def call16(self, back, count):
        refuse(-1, count > 100)
        x, y, width, height = self.rooms()[self.focus]
        rows = self.rows(width)
        tops = [row[:2] for row in rows]
        point, top = self.row_of(rows, self.points[self.focus]), tops.index(self.tops[self.focus])
        for step in range(count):
            top = max(top - 1, 0) if back else min(top + 1, len(rows) - 1)
        self.tops[self.focus] = tops[top]
        if point < top:
            self.points[self.focus] = rows[top][0], rows[top][2]
        if point > top + height - 1:
            self.points[self.focus] = rows[top + height - 1][0], rows[top + height - 1][2]

    def call17(self):
        return [number for cell in self.cells() for number in cell]

    def call18(self):
        cells = self.cells()
        new = [(number, *cell) for number, cell in enumerate(cells) if not self.drawn or self.drawn[number] != cell]
        self.drawn = cells
        return [len(new)] + [number for cell in new for number in cell]

    def call19(self, window):
        refuse(-2, window not in windows_of(self.tree))
        return [*self.points[window], *self.tops[window], *self.rooms()[window]]

    def call20(self):
        found = [len(self.lines)]
        for signs in self.lines:
            found += [len(signs)] + [ord(sign) for sign in signs]
        return found
