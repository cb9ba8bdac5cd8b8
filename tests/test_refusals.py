"""Promise 5: what is refused, in what order that is told, and that nothing changes."""

import unittest

from headcolumns.columns import Paragraph
from headcolumns.setter import Setter, sheet_of
from tests.support import COLUMNS, MOST, WIDTHS, characters, line, mains, paragraphs, sheet, told, where

GOOD = (1, 0, 1, "ab")


def sheet_answer(*arguments, **named):
    """What a call of sheet is answered."""
    return told(sheet(*arguments, **named))[0]


def set_answer(*rows, on=None):
    """What a call of set is answered on a sheet of width 4."""
    return told(on or sheet(4), paragraphs(*rows))[1]


def setter_on(width, height=1000, widths=()):
    """A setter with a sheet, for texts longer than a list of calls holds."""
    setter = Setter()
    numbers = [width, height, 0, 0, 0, 0, 0]
    if setter.set_sheet(sheet_of(numbers, [list(widths), []])) != [0, 0]:
        raise AssertionError("the sheet is refused")
    return setter


def long_set(setter, *texts):
    """What a setter answers to paragraphs of depth 1 with these texts."""
    return setter.set_paragraphs([Paragraph([1, 0, 1] + text) for text in texts])


class SheetRefusals(unittest.TestCase):
    """The call sheet: 1, 2, 3."""

    def test_height(self):
        for height, expected in ((0, [-1]), (2, [-1]), (3, [0, 0]), (1000, [0, 0]), (1001, [-1]), (MOST, [-1])):
            self.assertEqual(sheet_answer(4, height=height), expected, height)

    def test_gap(self):
        for gap, expected in ((0, [0, 0]), (100, [0, 0]), (101, [-1]), (MOST, [-1])):
            self.assertEqual(sheet_answer(4, gap=gap), expected, gap)

    def test_width(self):
        for width, expected in ((0, [0, 0]), (1000000, [0, 0]), (1000001, [-1]), (MOST, [-1])):
            self.assertEqual(sheet_answer(width), expected, width)

    def test_count_of_widths(self):
        row = [5, 6, 7, 0]
        for count, expected in ((0, [0, 0]), (256, [0, 0]), (257, [-1]), (300, [-1])):
            self.assertEqual(sheet_answer(4, widths=row * count), expected, count)

    def test_size_of_the_cut(self):
        for size, expected in ((0, [0, 0]), (64, [0, 0]), (65, [-1]), (100, [-1])):
            self.assertEqual(sheet_answer(200, cut="x" * size), expected, size)

    def test_indents_and_turn_are_free(self):
        self.assertEqual(sheet_answer(4, indents=(MOST, MOST, MOST), turn=MOST), [0, 0])

    def test_from_above_to(self):
        for row, expected in (([5, 5, 1, 0], [0, 0]), ([6, 5, 1, 0], [-2]), ([MOST, 0, 1, 0], [-2])):
            self.assertEqual(sheet_answer(4, widths=WIDTHS + row), expected, row)
            self.assertEqual(sheet_answer(4, widths=row + WIDTHS), expected, row)

    def test_kind(self):
        for kind, expected in ((0, [0, 0]), (1, [0, 0]), (2, [0, 0]), (3, [-2]), (MOST, [-2])):
            self.assertEqual(sheet_answer(4, widths=WIDTHS + [5, 6, 1, kind]), expected, kind)

    def test_width_of_a_character_is_free(self):
        self.assertEqual(sheet_answer(4, widths=[0, MOST, MOST, 0]), [0, 0])

    def test_cut_wider_than_the_width(self):
        self.assertEqual(sheet_answer(4, cut="abcd"), [0, 0])
        self.assertEqual(sheet_answer(4, cut="abcde"), [-3])
        self.assertEqual(sheet_answer(0, cut=""), [0, 0])
        self.assertEqual(sheet_answer(0, cut="a"), [-3])

    def test_cut_goes_by_the_widths_handed_over(self):
        self.assertEqual(sheet_answer(4, cut="aa", widths=[97, 97, 2, 0]), [0, 0])
        self.assertEqual(sheet_answer(4, cut="aa", widths=[97, 97, 3, 0]), [-3])
        self.assertEqual(sheet_answer(0, cut="aa", widths=[97, 97, 0, 0]), [0, 0])
        wide = sheet(9, widths=[97, 97, 3, 0])
        self.assertEqual(told(wide, sheet(4, cut="aaaa"))[1], [0, 0])
        self.assertEqual(told(sheet(9), sheet(4, cut="aa", widths=[97, 97, 3, 0]))[1], [-3])

    def test_first_told_first(self):
        wrong = [6, 5, 1, 3]
        self.assertEqual(sheet_answer(4, height=2, widths=wrong, cut="abcde"), [-1])
        self.assertEqual(sheet_answer(4, gap=101, widths=wrong), [-1])
        self.assertEqual(sheet_answer(4, widths=wrong * 257), [-1])
        self.assertEqual(sheet_answer(4, cut="x" * 65), [-1])
        self.assertEqual(sheet_answer(1000001, widths=wrong), [-1])
        self.assertEqual(sheet_answer(4, widths=wrong, cut="abcde"), [-2])


class SetRefusals(unittest.TestCase):
    """The call set: 1, 7, 6, 5, 4."""

    def test_depth(self):
        self.assertEqual(set_answer((0, 0, 1, "ab")), [-1, 0])
        self.assertEqual(set_answer(GOOD, (0, 0, 1, "ab")), [-1, 1])
        self.assertEqual(set_answer(GOOD, (2, 0, 1, "ab"), (3, 0, 1, "ab"), (4, 0, 1, "ab")), [-1, 3])
        self.assertEqual(set_answer(GOOD, GOOD, (MOST, 0, 1, "ab")), [-1, 2])

    def test_right_behind_the_one_before(self):
        self.assertEqual(set_answer((2, 0, 1, "ab")), [-1, 0])
        self.assertEqual(set_answer((3, 0, 1, "ab"), GOOD), [-1, 0])
        self.assertEqual(set_answer(GOOD, (3, 0, 1, "ab")), [-1, 1])
        self.assertEqual(set_answer(GOOD, (2, 0, 1, "ab"), GOOD, (3, 0, 1, "ab")), [-1, 3])

    def test_depths_that_are_right(self):
        depths = (1, 1, 2, 2, 3, 3, 2, 3, 1, 2, 3, 1)
        self.assertEqual(set_answer(*[(depth, 0, 1, "ab") for depth in depths])[0], 0)

    def test_no_text(self):
        self.assertEqual(set_answer((1, 0, 0, "")), [-1, 0])
        self.assertEqual(set_answer(GOOD, (1, 0, 1, "")), [-1, 1])

    def test_lead(self):
        for lead, expected in ((0, [-1, 1]), (1, [0, 2]), (3, [0, 2]), (4, [-1, 1]), (MOST, [-1, 1])):
            self.assertEqual(set_answer(GOOD, (1, 0, lead, "abc")), expected, lead)

    def test_group_is_free(self):
        self.assertEqual(set_answer((1, MOST, 1, "abc")), [0, 1])

    def test_the_first_that_is_wrong_is_told(self):
        self.assertEqual(set_answer(GOOD, (1, 0, 9, "abc"), (0, 0, 1, "a"), (1, 0, 0, "")), [-1, 1])
        self.assertEqual(set_answer(GOOD, GOOD, (1, 0, 1, ""), (3, 0, 1, "a")), [-1, 2])

    def test_blanks_alone(self):
        self.assertEqual(set_answer((1, 0, 1, " ")), [-6, 0])
        self.assertEqual(set_answer(GOOD, (2, 0, 2, "   "), (2, 0, 1, " ")), [-6, 1])
        self.assertEqual(set_answer(GOOD, (1, 0, 1, "  a ")), [0, 2])

    def test_blanks_go_by_the_widths(self):
        on = sheet(4, widths=[97, 98, 1, 1])
        self.assertEqual(set_answer((1, 0, 1, "  "), (1, 0, 2, "aba"), on=on), [-6, 1])

    def test_can_not_be_set(self):
        on = sheet(4, indents=(0, 4, 2), turn=3)
        self.assertEqual(set_answer(GOOD, (2, 0, 1, "a"), on=on), [-5, 1])
        self.assertEqual(set_answer(GOOD, (1, 0, 1, "abcd e"), on=on), [0, 3])
        wide = sheet(4, widths=WIDTHS + [119, 119, 4, 0, 120, 120, 5, 0])
        self.assertEqual(set_answer(GOOD, (1, 0, 1, "w"), on=wide), [0, 2])
        self.assertEqual(set_answer(GOOD, (1, 0, 1, "a x"), (1, 0, 1, "x"), on=wide), [-5, 1])

    def test_1_ahead_of_6_and_5(self):
        on = sheet(4, indents=(0, 4, 0))
        self.assertEqual(set_answer((1, 0, 1, " "), (2, 0, 1, "a"), (1, 0, 0, "ab"), on=on), [-1, 2])

    def test_6_ahead_of_5(self):
        on = sheet(4, indents=(0, 4, 0))
        self.assertEqual(set_answer(GOOD, (2, 0, 1, "a"), (1, 0, 1, " "), on=on), [-6, 2])
        self.assertEqual(set_answer(GOOD, (2, 0, 1, " "), (2, 0, 1, "a"), on=on), [-6, 1])
        # Blanks alone are refused as such in a room of 0, too.
        self.assertEqual(set_answer(GOOD, (2, 0, 1, " "), on=on), [-6, 1])


class LongSetRefusals(unittest.TestCase):
    """The call set: texts longer than a list of calls holds."""

    def test_size_of_a_text(self):
        setter = setter_on(1000)
        self.assertEqual(long_set(setter, [97], [97] * 65535), [0, 67])
        self.assertEqual(long_set(setter, [97], [97] * 65536), [-1, 1])

    def test_size_of_all_texts(self):
        setter = setter_on(1000, widths=[0, MOST, 0, 0])
        texts = [[97] * 65535] * 4
        self.assertEqual(long_set(setter, *texts, [97] * 4), [0, 5])
        self.assertEqual(long_set(setter, *texts, [97] * 5), [-7])

    def test_count_of_lines(self):
        # Columns of 1000 lines, each of them but the first with a continued one.
        setter = setter_on(1)
        first = [97] * 65000
        self.assertEqual(long_set(setter, first, [97] * 471), [0, 65536])
        self.assertEqual(long_set(setter, first, [97] * 472), [-4])
        self.assertEqual(setter.tell_columns(), [0, 66])
        self.assertEqual(setter.tell_where(1, 470), [0, 65535])

    def test_first_told_first(self):
        setter = setter_on(1, widths=[32, 32, 1, 1, 119, 119, 2, 0])
        many = [[97] * 65535] * 4
        self.assertEqual(long_set(setter, *many, [32] * 9, [97] * 65536), [-1, 5])
        self.assertEqual(long_set(setter, [119], *many, [32] * 9), [-7])
        self.assertEqual(long_set(setter, *many, [119], [32]), [-6, 5])
        self.assertEqual(long_set(setter, *many, [119], [119]), [-5, 4])
        self.assertEqual(long_set(setter, *many), [-4])


class NoSuchLine(unittest.TestCase):
    """The calls line and where: 5."""

    def test_line(self):
        calls = [line(number) for number in (0, 1, 2, 3, MOST)]
        found = told(sheet(2), mains("ab cd", "e"), *calls)[2:]
        self.assertEqual([each[0] for each in found], [0, 0, 0, -5, -5])
        self.assertEqual(found[3:], [[-5], [-5]])

    def test_without_lines(self):
        self.assertEqual(told(line(0), where(0, 0), COLUMNS), [[-5], [-5], [0, 0]])


class NothingChanges(unittest.TestCase):
    """What follows a refused call is answered as if it had not been."""

    AHEAD = [
        sheet(4, height=3, indents=(0, 1, 1), turn=1, gap=1, cut="~"),
        paragraphs((1, 0, 3, "abc de"), (2, 0, 1, "fgh ij"), (1, 1, 1, "k"), (2, 1, 1, "l m n o p q")),
    ]
    REFUSED = [
        (sheet(9, height=2, widths=[]), [-1]),
        (sheet(1000001), [-1]),
        (sheet(9, gap=101, cut="x"), [-1]),
        (sheet(9, widths=[97, 97, 1, 1] * 257), [-1]),
        (sheet(99, cut="x" * 65), [-1]),
        (sheet(9, widths=[97, 97, 1, 1, 6, 5, 1, 0]), [-2]),
        (sheet(9, widths=[97, 97, 1, 3]), [-2]),
        (sheet(3, height=9, widths=[97, 97, 2, 1], cut="aa"), [-3]),
        (paragraphs((1, 0, 1, "zzz"), (3, 0, 1, "zzz")), [-1, 1]),
        (paragraphs((1, 0, 1, "zzz"), (1, 0, 1, "")), [-1, 1]),
        (paragraphs((1, 0, 1, "zzz"), (1, 0, 4, "zzz")), [-1, 1]),
        (paragraphs((1, 0, 1, "zzz"), (1, 0, 1, "  ")), [-6, 1]),
        (line(99), [-5]),
        (where(0, 3), [-5]),
        (where(9, 0), [-5]),
    ]
    BEHIND = [line(number) for number in range(14)] + [
        where(number, place) for number in range(4) for place in range(12)
    ] + [COLUMNS, mains("zz z", "a a a a a"), line(0), line(3), COLUMNS]

    def test_refused_between_the_others(self):
        expected = told(*self.AHEAD, *self.BEHIND)
        self.assertGreater(expected[1][1], 8)
        for call, refusal in self.REFUSED:
            found = told(*self.AHEAD, call, *self.BEHIND)
            self.assertEqual(found[2], refusal)
            self.assertEqual(found[:2] + found[3:], expected)

    def test_several_refused(self):
        expected = told(*self.AHEAD, *self.BEHIND)
        refused = [call for call, refusal in self.REFUSED]
        found = told(*self.AHEAD, *refused, *self.BEHIND)
        self.assertEqual(found[:2] + found[2 + len(refused):], expected)

    def test_paragraphs_that_can_not_be_set(self):
        ahead = [sheet(4, height=3, indents=(0, 4, 0), cut="~"), mains("abc de fg hi jk")]
        expected = told(*ahead, *self.BEHIND)
        found = told(*ahead, paragraphs(GOOD, (2, 0, 1, "a")), *self.BEHIND)
        self.assertEqual(found[2], [-5, 1])
        self.assertEqual(found[:2] + found[3:], expected)

    def test_refused_on_a_new_setter(self):
        for call, refusal in self.REFUSED[:12]:
            found = told(call, sheet(0), line(0), COLUMNS, mains("a"))
            self.assertEqual(found[1:], [[0, 0], [-5], [0, 0], [-5, 0]])

    def test_too_long_ones(self):
        setter = setter_on(1, height=3)
        long_set(setter, characters("abcdef"))
        expected = [setter.tell_line(number) for number in range(9)] + [setter.tell_columns()]
        self.assertEqual(long_set(setter, *[[97] * 65535] * 4), [-4])
        self.assertEqual(long_set(setter, *[[97] * 65535] * 5), [-7])
        self.assertEqual([setter.tell_line(number) for number in range(9)] + [setter.tell_columns()], expected)
        self.assertEqual(setter.tell_where(0, 5), [0, 7])


if __name__ == "__main__":
    unittest.main()
