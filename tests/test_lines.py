"""Promises 1 and 2: which characters a paragraph's lines hold, and their room."""

import unittest

from tests.support import MOST, WIDTHS, broken, mains, paragraphs, set_lines, sheet, shown, told, where


class CharactersOnce(unittest.TestCase):
    """Promise 1, and the call where."""

    def test_one_line_holds_all(self):
        self.assertEqual(set_lines(sheet(10), mains("abc")), [[0, 0, 0, 0, 3, 0, 97, 98, 99]])

    def test_blanks_at_a_break_are_left_out(self):
        lines = set_lines(sheet(3), mains("ab   cd"))
        self.assertEqual([shown(each) for each in lines], ["ab", "cd"])
        self.assertEqual([each[3:5] for each in lines], [[0, 2], [5, 7]])

    def test_blanks_within_a_line_stand_in_it(self):
        self.assertEqual([shown(each) for each in set_lines(sheet(6), mains("a   b c"))], ["a   b", "c"])

    def test_blanks_at_the_beginning_and_the_end(self):
        self.assertEqual(broken(sheet(3), "  abc  "), [(2, 5)])

    def test_blanks_at_the_end_need_no_room(self):
        self.assertEqual(broken(sheet(2), "ab" + " " * 50), [(0, 2)])

    def test_where_of_every_place(self):
        text = " ab  cd-ef "
        calls = [where(0, place) for place in range(len(text) + 1)]
        found = told(sheet(3), mains(text), *calls)[2:]
        expected = [[-5], [0, 0], [0, 0], [-5], [-5]] + [[0, 1]] * 3 + [[0, 2]] * 2 + [[-5], [-5]]
        self.assertEqual(found, expected)

    def test_where_of_what_is_not_there(self):
        calls = [where(1, 0), where(0, 2), where(0, MOST), where(MOST, 0), where(MOST, MOST)]
        self.assertEqual(told(sheet(3), mains("ab"), *calls)[2:], [[-5]] * 5)

    def test_where_passes_over_continued_lines(self):
        call = mains("ab cd ef gh")
        found = told(sheet(2, height=3), call, *[where(0, place) for place in (0, 1, 3, 6, 7, 9)])
        # Lines 0 to 2 fill the first column, 3 is the continued one.
        self.assertEqual(found[1], [0, 5])
        self.assertEqual(found[2:], [[0, 0], [0, 0], [0, 1], [0, 2], [0, 2], [0, 4]])

    def test_where_counts_the_lines_of_all_paragraphs(self):
        found = told(sheet(2), mains("ab cd", "ef", "g"), where(1, 1), where(2, 0), where(2, 1))
        self.assertEqual(found[2:], [[0, 2], [0, 3], [-5]])


class Breaks(unittest.TestCase):
    """Promise 2: where lines end."""

    def test_the_greatest_break_that_fits(self):
        self.assertEqual(broken(sheet(7), "a bc de fg"), [(0, 7), (8, 10)])
        self.assertEqual(broken(sheet(6), "a bc de fg"), [(0, 4), (5, 10)])

    def test_behind_a_character_of_kind_2(self):
        self.assertEqual(broken(sheet(4), "ab-cd"), [(0, 3), (3, 5)])
        self.assertEqual(broken(sheet(3), "ab-cd"), [(0, 3), (3, 5)])

    def test_not_ahead_of_a_character_of_kind_2(self):
        self.assertEqual(broken(sheet(4), "a bc-d"), [(0, 1), (2, 6)])
        self.assertEqual(broken(sheet(3), "a bc-d"), [(0, 1), (2, 5), (5, 6)])

    def test_blank_behind_a_character_of_kind_2(self):
        self.assertEqual(broken(sheet(3), "ab- cd"), [(0, 3), (4, 6)])

    def test_only_the_first_of_several_blanks_is_a_break(self):
        self.assertEqual(broken(sheet(3), "a   b"), [(0, 1), (4, 5)])

    def test_behind_the_last_that_is_no_blank(self):
        self.assertEqual(broken(sheet(5), "ab cd  "), [(0, 5)])
        self.assertEqual(broken(sheet(4), "ab cd  "), [(0, 2), (3, 5)])

    def test_word_wider_than_its_room(self):
        self.assertEqual(broken(sheet(4), "abcdefghij"), [(0, 4), (4, 8), (8, 10)])
        self.assertEqual(broken(sheet(4), "a bcdefg h"), [(0, 1), (2, 6), (6, 10)])

    def test_word_ends_behind_characters_without_width(self):
        widths = [122, 122, 0, 0]
        self.assertEqual(broken(sheet(2, widths=widths), "abzzcz"), [(0, 4), (4, 6)])

    def test_break_behind_characters_without_width(self):
        widths = [122, 122, 0, 2]
        self.assertEqual(broken(sheet(2, widths=widths), "abzzc"), [(0, 4), (4, 5)])

    def test_blank_without_width(self):
        widths = [32, 32, 0, 1]
        self.assertEqual(broken(sheet(2, widths=widths), "ab  cd"), [(0, 2), (4, 6)])


class Rooms(unittest.TestCase):
    """Promise 2: the rooms of lines."""

    def test_later_lines_have_the_turn_less(self):
        self.assertEqual(broken(sheet(5, turn=2), "ab cd ef gh"), [(0, 5), (6, 8), (9, 11)])

    def test_each_depth_has_its_indent(self):
        call = paragraphs((1, 0, None, "abcdefg"), (2, 0, None, "abcdefg"), (3, 0, None, "abcdefg"))
        lines = set_lines(sheet(7, indents=(1, 2, 4), turn=1), call)
        expected = [(0, 0, 6), (0, 6, 7), (1, 0, 5), (1, 5, 7), (2, 0, 3), (2, 3, 5), (2, 5, 7)]
        self.assertEqual([tuple(each[2:5]) for each in lines], expected)

    def test_indent_as_wide_as_the_width(self):
        self.assertEqual(told(sheet(4, indents=(4, 0, 0)), mains("a"))[1], [-5, 0])
        self.assertEqual(told(sheet(4, indents=(3, 0, 0)), mains("a"))[1], [0, 1])

    def test_room_below_0_is_0(self):
        widths = [122, 122, 0, 0]
        call = sheet(4, indents=(MOST, 0, 0), turn=MOST, widths=widths)
        self.assertEqual(broken(call, "zzz"), [(0, 3)])
        self.assertEqual(told(call, mains("za"))[1], [-5, 0])

    def test_later_room_of_0(self):
        widths = WIDTHS + [122, 122, 0, 0]
        call = sheet(3, turn=4, widths=widths)
        self.assertEqual(broken(call, "abc zz"), [(0, 3), (4, 6)])
        self.assertEqual(broken(call, "ab-zz"), [(0, 5)])
        self.assertEqual(told(call, mains("abc-zz"))[1], [-5, 0])
        self.assertEqual(told(call, mains("abc d"))[1], [-5, 0])

    def test_indent_and_turn_together_below_0(self):
        self.assertEqual(told(sheet(3, indents=(2, 0, 0), turn=2), mains("a b"))[1], [-5, 0])
        self.assertEqual(broken(sheet(3, indents=(1, 0, 0), turn=1), "ab c"), [(0, 2), (3, 4)])

    def test_can_not_be_set_behind_a_line_that_can(self):
        widths = WIDTHS + [119, 119, 5, 0]
        self.assertEqual(told(sheet(4, widths=widths), mains("ab", "ab w"))[1], [-5, 1])
        self.assertEqual(broken(sheet(5, widths=widths), "ab w"), [(0, 2), (3, 4)])


class Widths(unittest.TestCase):
    """Promise 2: how wide characters are, and of what kind."""

    def test_widths_above_1(self):
        widths = [32, 32, 2, 1, 97, 97, 3, 0]
        self.assertEqual(broken(sheet(8, widths=widths), "a a a"), [(0, 3), (4, 5)])
        self.assertEqual(broken(sheet(7, widths=widths), "a a a"), [(0, 1), (2, 3), (4, 5)])

    def test_first_of_several_rows(self):
        widths = [98, 98, 2, 0, 97, 99, 3, 0, 98, 100, 1, 1]
        # a 3, b 2, c 3; d, of the last row alone, is a blank.
        self.assertEqual(broken(sheet(5, widths=widths), "abc"), [(0, 2), (2, 3)])
        self.assertEqual(broken(sheet(5, widths=widths), "dbdcdbd"), [(1, 2), (3, 4), (5, 6)])

    def test_kind_goes_by_the_first_row_too(self):
        self.assertEqual(broken(sheet(3, widths=[45, 45, 1, 0] + WIDTHS), "a-bcd"), [(0, 3), (3, 5)])
        self.assertEqual(broken(sheet(3, widths=[45, 45, 1, 2, 40, 50, 1, 0]), "a-bcd"), [(0, 2), (2, 5)])

    def test_from_and_to_are_of_the_row(self):
        widths = [98, 100, 2, 0]
        lines = broken(sheet(2, widths=widths), "aabacadaee")
        self.assertEqual(lines, [(0, 2), (2, 3), (3, 4), (4, 5), (5, 6), (6, 7), (7, 9), (9, 10)])

    def test_characters_of_no_row(self):
        self.assertEqual(broken(sheet(3, widths=[]), [0, 32, 45, MOST, MOST - 1]), [(0, 3), (3, 5)])

    def test_greatest_numbers(self):
        widths = [MOST, MOST, 0, 1, MOST - 1, MOST - 1, MOST, 0, 0, 0, 0, 2]
        call = sheet(1000000, widths=widths)
        self.assertEqual(broken(call, [MOST, 5, 0, 6, MOST]), [(1, 4)])
        self.assertEqual(told(call, mains([5, MOST - 1]))[1], [-5, 0])
        self.assertEqual(broken(sheet(1, widths=[0, MOST, 0, 0]), [0, 7, MOST]), [(0, 3)])

    def test_many_rows(self):
        widths = []
        for number in range(256):
            widths += [1000 - number, 1000 + number, number % 3, 0]
        # A character goes by the row that begins or ends with it, the rest of 3 wide.
        text = [1000 + number for number in range(256)]
        used = sum(number % 3 for number in range(256))
        lines = broken(sheet(used, widths=widths), text, [2000 - each for each in text])
        self.assertEqual(lines, [(0, 256), (0, 256)])
        # The last character but one is 2 wide, the last one 0.
        lines = broken(sheet(used - 1, widths=widths), text, [2000 - each for each in text])
        self.assertEqual(lines, [(0, 254), (254, 256)] * 2)


if __name__ == "__main__":
    unittest.main()
