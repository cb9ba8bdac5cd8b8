"""Promise 3: where the lines stand in columns."""

import unittest

from tests.support import COLUMNS, mains, paragraphs, set_lines, sheet, standing, told

# Texts of 1, 2 and 3 lines on a sheet of width 2.
ONE = "ab"
TWO = "ab cd"
THREE = "ab cd ef"


def rows(height, *paragraph_rows, gap=0):
    """Column and row of each first or later line, continued ones left out."""
    call = paragraphs(*[(depth, group, None, text) for depth, group, text in paragraph_rows])
    lines = standing(sheet(2, height=height, gap=gap), call)
    return [(column, row) for column, row, number, kind in lines if kind == 0]


class Rows(unittest.TestCase):
    """Lines one below another, no more of them than the height."""

    def test_from_column_0_and_row_0_on(self):
        self.assertEqual(rows(5, (1, 0, TWO), (1, 0, ONE)), [(0, 0), (0, 1), (0, 2)])

    def test_a_full_column_goes_on_in_the_next(self):
        found = rows(3, *[(1, 0, ONE)] * 7)
        self.assertEqual(found, [(0, 0), (0, 1), (0, 2), (1, 0), (1, 1), (1, 2), (2, 0)])

    def test_later_lines_go_on_behind_a_continued_one(self):
        self.assertEqual(rows(3, (1, 0, "ab cd ef gh ij kl")), [(0, 0), (0, 1), (0, 2), (1, 1), (1, 2), (2, 1)])

    def test_the_greatest_height(self):
        found = rows(1000, *[(1, 0, ONE)] * 1001)
        self.assertEqual(found, [(0, row) for row in range(1000)] + [(1, 0)])

    def test_columns_are_counted(self):
        for count, expected in ((0, 0), (1, 1), (3, 1), (4, 2), (6, 2), (7, 3)):
            found = told(sheet(2, height=3), mains(*[ONE] * count), COLUMNS)
            self.assertEqual(found[2], [0, expected])

    def test_continued_lines_are_counted_as_lines(self):
        self.assertEqual(told(sheet(2, height=3), mains("ab cd ef gh"))[1], [0, 5])
        self.assertEqual(len(set_lines(sheet(2, height=3), mains("ab cd ef gh"))), 5)


class Needs(unittest.TestCase):
    """The rows that a first line needs at a column's foot."""

    def test_one_line_alone_needs_1(self):
        self.assertEqual(rows(3, (1, 0, TWO), (1, 0, ONE))[-1], (0, 2))
        self.assertEqual(rows(3, (1, 0, TWO), (1, 0, ONE), (1, 0, TWO))[2], (0, 2))

    def test_two_lines_need_2(self):
        self.assertEqual(rows(4, (1, 0, TWO), (1, 0, TWO))[2:], [(0, 2), (0, 3)])
        self.assertEqual(rows(3, (1, 0, TWO), (1, 0, TWO))[2:], [(1, 0), (1, 1)])

    def test_three_lines_need_2(self):
        self.assertEqual(rows(4, (1, 0, TWO), (1, 0, THREE))[2:], [(0, 2), (0, 3), (1, 1)])
        self.assertEqual(rows(3, (1, 0, TWO), (1, 0, THREE))[2:], [(1, 0), (1, 1), (1, 2)])

    def test_main_ahead_of_one_line_needs_2(self):
        self.assertEqual(rows(4, (1, 0, TWO), (1, 0, ONE), (2, 0, ONE))[2:], [(0, 2), (0, 3)])
        self.assertEqual(rows(3, (1, 0, TWO), (1, 0, ONE), (2, 0, ONE))[2:], [(1, 0), (1, 1)])

    def test_main_ahead_of_two_lines_needs_3(self):
        self.assertEqual(rows(5, (1, 0, TWO), (1, 0, ONE), (2, 0, TWO))[2:], [(0, 2), (0, 3), (0, 4)])
        self.assertEqual(rows(4, (1, 0, TWO), (1, 0, ONE), (2, 0, TWO))[2:], [(1, 0), (1, 1), (1, 2)])

    def test_main_ahead_of_three_lines_needs_3(self):
        self.assertEqual(rows(5, (1, 0, TWO), (1, 0, ONE), (2, 0, THREE))[2:], [(0, 2), (0, 3), (0, 4), (1, 1)])
        found = rows(4, (1, 0, TWO), (1, 0, ONE), (2, 0, THREE))
        self.assertEqual(found[2:], [(1, 0), (1, 1), (1, 2), (1, 3)])

    def test_main_of_two_lines_needs_2_whatever_follows(self):
        found = rows(4, (1, 0, TWO), (1, 0, TWO), (2, 0, TWO))
        self.assertEqual(found[2:], [(0, 2), (0, 3), (1, 1), (1, 2)])

    def test_lower_heading_of_one_line_needs_1(self):
        found = rows(3, (1, 0, ONE), (2, 0, ONE), (2, 0, ONE), (3, 0, TWO))
        self.assertEqual(found, [(0, 0), (0, 1), (0, 2), (1, 1), (1, 2)])

    def test_lower_heading_of_two_lines_needs_2(self):
        found = rows(3, (1, 0, ONE), (2, 0, ONE), (2, 0, TWO), (3, 0, ONE))
        self.assertEqual(found, [(0, 0), (0, 1), (1, 1), (1, 2), (2, 1)])

    def test_last_main_needs_1(self):
        self.assertEqual(rows(3, (1, 0, ONE), (2, 0, ONE), (1, 0, ONE)), [(0, 0), (0, 1), (0, 2)])

    def test_later_line_needs_1(self):
        self.assertEqual(rows(3, (1, 0, THREE), (2, 0, ONE)), [(0, 0), (0, 1), (0, 2), (1, 1)])

    def test_three_rows_at_the_top_of_the_least_height(self):
        found = rows(3, (1, 0, ONE), (1, 0, ONE), (2, 0, TWO))
        self.assertEqual(found, [(0, 0), (1, 0), (1, 1), (1, 2)])


class Gaps(unittest.TestCase):
    """The gap ahead of a paragraph of depth 1 of another group."""

    def test_gap_within_a_column(self):
        self.assertEqual(rows(9, (1, 7, ONE), (1, 8, ONE), gap=2), [(0, 0), (0, 3)])

    def test_no_gap_ahead_of_the_first(self):
        self.assertEqual(rows(9, (1, 7, ONE), gap=2), [(0, 0)])

    def test_no_gap_within_a_group(self):
        self.assertEqual(rows(9, (1, 7, ONE), (1, 7, ONE), gap=2), [(0, 0), (0, 1)])

    def test_no_gap_ahead_of_a_lower_heading(self):
        self.assertEqual(rows(9, (1, 7, ONE), (2, 8, ONE), (3, 9, ONE), gap=2), [(0, 0), (0, 1), (0, 2)])

    def test_the_group_is_that_of_the_paragraph_before(self):
        self.assertEqual(rows(9, (1, 7, ONE), (2, 8, ONE), (1, 7, ONE), gap=2)[2], (0, 4))
        self.assertEqual(rows(9, (1, 7, ONE), (2, 8, ONE), (1, 8, ONE), gap=2)[2], (0, 2))

    def test_a_group_that_comes_again(self):
        self.assertEqual(rows(9, (1, 7, ONE), (1, 8, ONE), (1, 7, ONE), gap=1), [(0, 0), (0, 2), (0, 4)])

    def test_gap_to_the_foot(self):
        self.assertEqual(rows(4, (1, 7, ONE), (1, 8, ONE), gap=2), [(0, 0), (0, 3)])
        self.assertEqual(rows(4, (1, 7, ONE), (1, 8, TWO), gap=1), [(0, 0), (0, 2), (0, 3)])

    def test_no_gap_at_the_top_of_the_next_column(self):
        self.assertEqual(rows(4, (1, 7, ONE), (1, 8, ONE), gap=3), [(0, 0), (1, 0)])
        self.assertEqual(rows(4, (1, 7, ONE), (1, 8, TWO), gap=2), [(0, 0), (1, 0), (1, 1)])
        self.assertEqual(rows(3, (1, 7, ONE), (1, 8, ONE), gap=100), [(0, 0), (1, 0)])

    def test_gap_behind_a_full_column(self):
        self.assertEqual(rows(3, (1, 7, THREE), (1, 8, ONE), (1, 9, ONE), gap=1)[3:], [(1, 0), (1, 2)])

    def test_gap_of_0(self):
        self.assertEqual(rows(4, (1, 7, ONE), (1, 8, ONE), gap=0), [(0, 0), (0, 1)])


if __name__ == "__main__":
    unittest.main()
