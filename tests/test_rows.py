import unittest

from tests.asking import goto, screen, text, tops


def rows_of(line, width):
    """The line parted into its rows, as a window of one row shows in which one each place is."""
    at_places = []
    for first in range(0, len(line) + 1, 30):
        places = range(first, min(first + 30, len(line) + 1))
        at_places += tops(text(line), screen(width, 1), *[goto(0, place) for place in places])[2:]
    rows = [""] * (at_places[-1][1] + 1)
    for place, top in enumerate(at_places[:-1]):
        rows[top[1]] += line[place]
    return rows


class RowsTest(unittest.TestCase):
    def test_no_more_bytes_than_the_width(self):
        self.assertEqual(rows_of("", 3), [""])
        self.assertEqual(rows_of("a", 5), ["a"])
        self.assertEqual(rows_of("a b c", 5), ["a b c"])
        self.assertEqual(rows_of("     ", 5), ["     "])

    def test_a_blank_behind_the_width(self):
        self.assertEqual(rows_of("abcde fgh", 5), ["abcde ", "fgh"])
        self.assertEqual(rows_of("abcde    fgh", 5), ["abcde    ", "fgh"])
        self.assertEqual(rows_of("ab de fgh", 5), ["ab de ", "fgh"])
        self.assertEqual(rows_of("abcd  fgh", 5), ["abcd  ", "fgh"])

    def test_a_blank_behind_the_width_and_nothing_behind_it(self):
        self.assertEqual(rows_of("abcde ", 5), ["abcde "])
        self.assertEqual(rows_of("abcde       ", 5), ["abcde       "])
        self.assertEqual(rows_of("            ", 5), ["            "])
        self.assertEqual(rows_of(" " * 60, 3), [" " * 60])
        self.assertEqual(rows_of("abcde fghij  ", 5), ["abcde ", "fghij  "])

    def test_behind_the_last_blank(self):
        self.assertEqual(rows_of("abcd efgh", 5), ["abcd ", "efgh"])
        self.assertEqual(rows_of("a b cdefg", 5), ["a b ", "cdefg"])
        self.assertEqual(rows_of("a  cdefg", 5), ["a  ", "cdefg"])
        self.assertEqual(rows_of(" abcdefg", 5), [" ", "abcde", "fg"])
        self.assertEqual(rows_of("    abcd", 5), ["    ", "abcd"])

    def test_no_blank(self):
        self.assertEqual(rows_of("abcdef", 5), ["abcde", "f"])
        self.assertEqual(rows_of("abcdefghij", 5), ["abcde", "fghij"])
        self.assertEqual(rows_of("a" * 60, 3), ["aaa"] * 20)
        self.assertEqual(rows_of("a" * 60, 40), ["a" * 40, "a" * 20])

    def test_each_row_by_itself(self):
        self.assertEqual(rows_of("ab cdefghi   jk lmnop q", 5), ["ab ", "cdefg", "hi   ", "jk ", "lmnop ", "q"])

    def test_only_32_is_a_blank(self):
        self.assertEqual(rows_of("ab!-~.cd", 5), ["ab!-~", ".cd"])

    def test_rows_of_several_lines_are_numbered_on(self):
        lines = [text("abcdef", "", "gh ij kl", "m"), screen(5, 3)]
        self.assertEqual(tops(*lines, goto(2, 7), goto(3, 0))[2:], [(1, 0), (2, 0)])
        self.assertEqual(tops(text(" abcdefg"), screen(5, 3), goto(0, 7))[2:], [(0, 0)])
