"""Promise 4: what stands at the top of each column."""

import unittest

from tests.support import WIDTHS, characters, mains, paragraphs, set_lines, sheet, shown, standing, told


def tops(sheet_call, set_call):
    """What line tells of each line at row 0."""
    return [each for each in set_lines(sheet_call, set_call) if each[1] == 0]


def continued(text, lead, width=12, cut=" ff", widths=WIDTHS):
    """The one continued line above the last of three headings below a main."""
    lower = (2, 0, None, characters("x"))
    call = paragraphs((1, 0, lead, text), lower, lower, lower)
    found = tops(sheet(width, height=3, cut=cut, widths=widths), call)
    if len(found) != 2 or found[1][5] != 1:
        raise AssertionError(f"not one continued line: {found}")
    return found[1]


class Tops(unittest.TestCase):
    """Each column begins with a main's first line or a continued line."""

    def test_main_at_the_top(self):
        call = mains("a", "b", "c", "d")
        self.assertEqual(tops(sheet(3, height=3), call), [[0, 0, 0, 0, 1, 0, 97], [1, 0, 3, 0, 1, 0, 100]])

    def test_continued_ahead_of_a_lower_heading(self):
        call = paragraphs((1, 0, None, "ab"), (2, 0, None, "c"), (3, 0, None, "d"), (3, 0, None, "e"))
        found = set_lines(sheet(3, height=3, cut="~"), call)
        self.assertEqual(found[3], [1, 0, 0, 0, 2, 1, 97, 98, 126])
        self.assertEqual(found[4], [1, 1, 3, 0, 1, 0, 101])

    def test_continued_ahead_of_a_later_line_of_the_main(self):
        found = set_lines(sheet(3, height=3, cut="~"), mains("ab", "cd ef gh ij"))
        self.assertEqual([tuple(each[:6]) for each in found], [
            (0, 0, 0, 0, 2, 0),
            (0, 1, 1, 0, 2, 0),
            (0, 2, 1, 3, 5, 0),
            (1, 0, 1, 0, 2, 1),
            (1, 1, 1, 6, 8, 0),
            (1, 2, 1, 9, 11, 0),
        ])
        self.assertEqual(shown(found[3]), "cd~")

    def test_continued_ahead_of_a_later_line_of_a_lower_heading(self):
        call = paragraphs((1, 0, None, "m"), (2, 0, None, "ab cd ef"))
        self.assertEqual(standing(sheet(3, height=3), call), [
            (0, 0, 0, 0), (0, 1, 1, 0), (0, 2, 1, 0), (1, 0, 0, 1), (1, 1, 1, 0),
        ])

    def test_the_main_is_the_last_of_depth_1(self):
        lower = (2, 0, None, "x")
        call = paragraphs((1, 0, None, "a"), lower, (1, 0, None, "b"), lower, lower, lower, lower)
        found = [(each[0], each[2], shown(each)) for each in tops(sheet(3, height=3, cut="~"), call)]
        # The second main needs 2 rows, so it begins the second column itself.
        self.assertEqual(found, [(0, 0, "a"), (1, 2, "b"), (2, 2, "b~")])

    def test_continued_in_each_further_column(self):
        call = paragraphs((1, 0, None, "a"), *[(2, 0, None, "x")] * 8)
        found = [tuple(each[:3]) + (each[5],) for each in tops(sheet(3, height=3), call)]
        self.assertEqual(found, [(0, 0, 0, 0), (1, 0, 0, 1), (2, 0, 0, 1), (3, 0, 0, 1)])

    def test_continued_lines_stand_at_tops_alone(self):
        call = paragraphs((1, 0, None, "a b c d e"), *[(2, 0, None, "x y z")] * 9)
        for each in set_lines(sheet(1, height=4), call):
            self.assertEqual(each[5] == 1, each[1] == 0 and each[0] > 0)


class Words(unittest.TestCase):
    """The characters of a continued line."""

    def test_all_of_the_lead_and_the_cut(self):
        found = continued("Abbey", 5)
        self.assertEqual(found, [1, 0, 0, 0, 5, 1, *characters("Abbey ff")])

    def test_lead_of_one(self):
        self.assertEqual(shown(continued("Abbey", 1)), "A ff")
        self.assertEqual(continued("Abbey", 1)[3:6], [0, 1, 1])

    def test_lead_that_is_not_all(self):
        self.assertEqual(shown(continued("Abbey, 12", 5)), "Abbey ff")

    def test_lead_as_long_as_has_room(self):
        self.assertEqual(shown(continued("Abcdefghi, 1", 9)), "Abcdefghi ff")
        self.assertEqual(shown(continued("Abcdefghij,1", 10)), "Abcdefghi ff")
        self.assertEqual(shown(continued("Abcdefghijkl", 12)), "Abcdefghi ff")

    def test_lead_is_cut_within_a_word(self):
        self.assertEqual(shown(continued("Abc defghijk", 12)), "Abc defgh ff")

    def test_blanks_of_the_lead_stand_in_it(self):
        self.assertEqual(shown(continued("  Ab  c ", 8)), "  Ab  c  ff")
        self.assertEqual(shown(continued("  Ab  c ", 2)), "   ff")
        self.assertEqual(shown(continued("  Abcde  fg ", 12)), "  Abcde   ff")

    def test_empty_cut(self):
        self.assertEqual(shown(continued("Abbey", 5, cut="")), "Abbey")
        self.assertEqual(shown(continued("Abcdefghijkl", 12, cut="")), "Abcdefghijkl")
        self.assertEqual(shown(continued("Abc def", 7, width=7, cut="")), "Abc def")

    def test_cut_as_wide_as_the_width(self):
        found = continued("Abbey", 5, width=5, cut="other")
        self.assertEqual(found, [1, 0, 0, 0, 0, 1, *characters("other")])

    def test_room_of_one_behind_the_cut(self):
        self.assertEqual(shown(continued("Abbey", 5, width=5, cut="othe")), "Aothe")

    def test_characters_without_width_at_the_end_of_the_room(self):
        widths = WIDTHS + [122, 122, 0, 0]
        self.assertEqual(shown(continued("zzbey", 5, width=5, cut="other", widths=widths)), "zzother")
        self.assertEqual(shown(continued("Azzey", 5, width=6, cut="other", widths=widths)), "Azzother")
        self.assertEqual(shown(continued("Azzey", 2, width=6, cut="other", widths=widths)), "Azother")

    def test_widths_count(self):
        widths = WIDTHS + [97, 97, 3, 0, 102, 102, 4, 0]
        # The cut " ff" is 9 wide, "a" 3.
        self.assertEqual(shown(continued("aab", 3, width=15, widths=widths)), "aa ff")
        self.assertEqual(shown(continued("aab", 3, width=14, widths=widths)), "a ff")
        self.assertEqual(shown(continued("aab", 3, width=11, widths=widths)), " ff")

    def test_neither_indent_nor_turn_counts(self):
        call = paragraphs((1, 0, None, "ab cd"), (2, 0, None, "x"), (2, 0, None, "x"))
        found = tops(sheet(5, height=3, indents=(2, 1, 0), turn=1), call)
        self.assertEqual([shown(each) for each in found], ["ab", "ab cd"])

    def test_characters_of_the_cut_of_any_kind(self):
        self.assertEqual(shown(continued("Abbey", 5, cut=" - ")), "Abbey - ")

    def test_from_and_to_tell_the_lead_alone(self):
        answered = told(sheet(4, height=3, cut="~~~"), mains("abc def ghi jkl"), [3, 1, 3, 0])
        self.assertEqual(answered[2], [0, 1, 0, 0, 0, 1, 1, 97, 126, 126, 126])


if __name__ == "__main__":
    unittest.main()
