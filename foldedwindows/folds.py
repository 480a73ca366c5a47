"""Folds: tuples of the first line and the number of the line behind the last one."""


def hides(fold, line):
    """If a fold hides a line; its first line stays seen."""
    return fold[0] < line < fold[1]


def seen_line(folds, line):
    """The line that is seen for a line; a line that no fold hides is seen for itself."""
    # Folds that hide one line lie within one another: the outermost one's first line is the one that is seen.
    return min([line] + [fold[0] for fold in folds if hides(fold, line)])


def seen_lines(folds, line_count):
    """All lines that are seen, of so many, in order."""
    return [line for line in range(line_count) if seen_line(folds, line) == line]


def folds_not_hiding(folds, line):
    """The folds that stay when those that hide a line are opened."""
    return [fold for fold in folds if not hides(fold, line)]
