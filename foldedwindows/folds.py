"""Folds: tuples of the first line and the number of the line behind the last one."""

LEAST_LINES = 2


def hides(fold, line):
    """If a fold hides a line; its first line stays seen."""
    return fold[0] < line < fold[1]


def has_line(fold, line):
    """If a fold has a line in it, its first one too."""
    return fold[0] <= line < fold[1]


def stand_together(fold, other):
    """If one of two folds is within the other, or they are apart."""
    if fold[1] <= other[0] or other[1] <= fold[0]:
        return True
    return is_within(fold, other) or is_within(other, fold)


def is_within(fold, other):
    """If a fold is within another one; an end may be shared."""
    return other[0] <= fold[0] and fold[1] <= other[1]


def seen_line(folds, line):
    """The line that is seen for a line; a line that no fold hides is seen for itself."""
    # Folds that hide one line lie within one another: the outermost one's first line is the one that is seen.
    return min([line] + [fold[0] for fold in folds if hides(fold, line)])


def seen_lines(folds, line_count):
    """All lines that are seen, of so many, in order."""
    return [line for line in range(line_count) if seen_line(folds, line) == line]


def folds_not_hiding(folds, line):
    """The folds that stay when those that hide a line are opened."""
    return [fold for fold in folds if not hides(fold, line)]


def begins_fold(folds, line):
    """If a line is a fold's first."""
    return any([fold[0] == line for fold in folds])


def parted_folds(folds, line):
    """The folds after a line has gone into two."""
    return [(up_behind(first, line), up_behind(end, line)) for first, end in folds]


def up_behind(number, line):
    """The number of a line, or a fold's end, after a line has gone into two."""
    return number + 1 if number > line else number


def joined_folds(folds, line):
    """The folds after a line has been joined to the one before."""
    joined = []
    for first, end in folds:
        fold = (first - 1 if first >= line else first, end - 1 if end > line else end)
        if fold[1] - fold[0] >= LEAST_LINES and fold not in joined:
            joined.append(fold)
    return joined
