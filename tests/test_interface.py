"""The interface: how calls are handed in and answered, and its limits."""

import unittest

import headcolumns.setter
from headcolumns.setter import answers
from tests.model import width_and_kind
from tests.support import (
    COLUMNS, MOST, WIDTHS, characters, joined, line, mains, paragraphs, sheet, told, where,
)


class Unchangeable(list):
    """A list that can't be changed, not for a while either."""

    def refuse(self, *arguments, **named):
        raise AssertionError("what was handed in is changed")

    append = clear = extend = insert = pop = remove = reverse = sort = refuse
    __setitem__ = __delitem__ = __iadd__ = __imul__ = refuse


class Form(unittest.TestCase):
    """The lists that go in and come back."""

    def test_lists_of_one_call(self):
        self.assertEqual(answers(sheet(0, height=3)), [2, 0, 0])
        self.assertEqual(answers([2, 0, 0]), [2, 0, 0])
        self.assertEqual(answers([2, 0, 1, 4, 1, 0, 1, 97]), [2, -5, 0])
        self.assertEqual(answers([3, 1, 0, 0]), [1, -5])
        self.assertEqual(answers([4, 2, 0, 0, 0]), [1, -5])
        self.assertEqual(answers([5, 0, 0]), [2, 0, 0])

    def test_a_list_written_out(self):
        calls = [
            1, 7, 3, 3, 0, 1, 2, 1, 0, 2, 4, 32, 32, 1, 1, 1, 126,
            2, 0, 2, 8, 1, 5, 2, 97, 98, 99, 32, 100, 5, 2, 5, 1, 101, 102,
            3, 1, 1, 0,
            3, 1, 3, 0,
            3, 1, 4, 0,
            4, 2, 1, 1, 0,
            4, 2, 0, 3, 0,
            5, 0, 0,
        ]
        self.assertEqual(answers(calls), [
            2, 0, 0,
            2, 0, 3,
            8, 0, 0, 1, 0, 4, 5, 0, 100,
            1, -5,
            1, -5,
            2, 0, 2,
            1, -5,
            2, 0, 1,
        ])

    def test_refusals_are_answered_with_what_is_told(self):
        self.assertEqual(answers(sheet(4, height=2)), [1, -1])
        self.assertEqual(answers(sheet(4, widths=[2, 1, 0, 0])), [1, -2])
        self.assertEqual(answers(sheet(4, cut="abcde")), [1, -3])
        self.assertEqual(answers(paragraphs((1, 0, 0, "a"))), [2, -1, 0])
        self.assertEqual(answers(sheet(4) + mains("a", " "))[3:], [2, -6, 1])
        self.assertEqual(answers(sheet(1, widths=[97, 97, 2, 0]) + mains("b", "a"))[3:], [2, -5, 1])

    def test_answers_are_whole_numbers(self):
        calls = [sheet(2, height=3), mains("ab cd ef gh"), *[line(number) for number in range(6)], COLUMNS]
        for number in answers(joined(calls)):
            self.assertIs(type(number), int)

    def test_the_function_stands_where_it_is_told(self):
        self.assertEqual(headcolumns.setter.answers.__module__, "headcolumns.setter")


class State(unittest.TestCase):
    """What calls leave behind for those that follow."""

    def test_a_new_setter(self):
        self.assertEqual(told(COLUMNS, line(0), where(0, 0)), [[0, 0], [-5], [-5]])
        self.assertEqual(told(mains("a"), COLUMNS), [[-5, 0], [0, 0]])
        # Without widths a blank is no blank: what is blanks alone elsewhere can't be set.
        self.assertEqual(told(mains(" "))[0], [-5, 0])
        self.assertEqual(told(paragraphs((1, 0, 2, "a")))[0], [-1, 0])

    def test_a_set_of_no_paragraphs(self):
        found = told(paragraphs(), COLUMNS, sheet(4), mains("a"), paragraphs(), line(0), where(0, 0), COLUMNS)
        self.assertEqual(found, [[0, 0], [0, 0], [0, 0], [0, 1], [0, 0], [-5], [-5], [0, 0]])

    def test_a_sheet_after_a_set(self):
        found = told(sheet(4), mains("ab"), sheet(4), line(0), where(0, 0), COLUMNS)
        self.assertEqual(found[2:], [[0, 0], [-5], [-5], [0, 0]])

    def test_a_sheet_in_place_of_another(self):
        first = sheet(9, height=3, indents=(1, 1, 1), turn=1, gap=9, widths=[97, 97, 9, 2], cut="~")
        second = sheet(2, height=4)
        call = mains("aa aa aa", "aa aa")
        calls = [call, *[line(number) for number in range(7)], COLUMNS]
        self.assertEqual(told(first, second, *calls)[2:], told(second, *calls)[1:])
        self.assertEqual(told(first, call, second, *calls)[3:], told(second, *calls)[1:])

    def test_a_set_in_place_of_another(self):
        first = paragraphs((1, 3, 2, "ab cd ef gh"), (2, 3, 1, "i"))
        second = paragraphs((1, 4, 1, "k"))
        found = told(sheet(2, height=3, gap=2), first, COLUMNS, second, line(0), line(1), where(0, 3), where(1, 0), COLUMNS)
        self.assertEqual(found[2:], [[0, 2], [0, 1], [0, 0, 0, 0, 0, 1, 0, 107], [-5], [-5], [-5], [0, 1]])

    def test_calls_that_tell_change_nothing(self):
        asking = [line(0), line(3), where(0, 1), where(5, 5), COLUMNS]
        found = told(sheet(2, height=3), mains("ab cd ef gh"), *asking, *asking, *asking)
        self.assertEqual(found[2:7], found[7:12])
        self.assertEqual(found[2:7], found[12:])

    def test_nothing_is_kept_from_one_time_to_the_next(self):
        calls = joined([sheet(2, height=3, cut="~"), mains("ab cd ef gh"), line(3), COLUMNS])
        first = answers(calls)
        self.assertEqual(answers(COLUMNS + line(0)), [2, 0, 0, 1, -5])
        self.assertEqual(answers(calls), first)
        first.append(7)
        self.assertEqual(answers(calls), first[:-1])

    def test_what_is_handed_in_stays_as_it_was(self):
        calls = joined([
            sheet(2, height=3, cut="~"), mains("ab cd ef gh"), line(0), line(3), where(0, 1), COLUMNS,
            sheet(2, height=1), mains("", "a"), mains(" "), paragraphs(),
        ])
        handed = Unchangeable(calls)
        answers(handed)
        self.assertEqual(list(handed), calls)


class Limits(unittest.TestCase):
    """The longest lists and the greatest numbers that are handed in."""

    def test_greatest_numbers(self):
        numbers = sheet(MOST, MOST, (MOST, MOST, MOST), MOST, MOST, [MOST] * 4, [MOST])
        self.assertEqual(told(numbers)[0], [-1])
        self.assertEqual(told(paragraphs((MOST, MOST, MOST, [MOST])))[0], [-1, 0])
        found = told(sheet(1), paragraphs((1, MOST, 1, [MOST])), line(0), line(MOST), where(MOST, MOST))
        self.assertEqual(found[1:], [[0, 1], [0, 0, 0, 0, 0, 1, 0, MOST], [-5], [-5]])

    def test_300_calls(self):
        calls = [COLUMNS, line(0), where(0, 0)] * 100
        self.assertEqual(told(*calls), [[0, 0], [-5], [-5]] * 100)

    def test_a_text_as_long_as_fits(self):
        text = characters("abc de-f") * 3700
        calls = [sheet(8, height=1000), paragraphs((1, 0, None, text))]
        asking = [line(number * 12) for number in range(100)] + [where(0, number * 150) for number in range(150)]
        found = told(*calls, *asking, COLUMNS)
        # "abc de-", 3699 times "fabc de-", "f"; the columns from 1 on begin with a continued line.
        self.assertEqual(found[1], [0, 3701 + 3])
        self.assertEqual(found[2], [0, 0, 0, 0, 0, 7, 0, *text[:7]])
        self.assertEqual(found[3], [0, 0, 12, 0, 95, 103, 0, *text[95:103]])
        self.assertEqual(found[101], [0, 1, 188, 0, 9495, 9503, 0, *text[9495:9503]])
        self.assertEqual(found[102:105], [[0, 0], [0, 18], [0, 37]])
        self.assertEqual(found[-1], [0, 4])

    def test_a_line_as_long_as_fits_told_often(self):
        text = list(range(1000, 30600))
        calls = [sheet(30000), paragraphs((1, 0, 1, text))] + [line(0)] * 90
        found = told(*calls)
        self.assertEqual(found[2:], [[0, 0, 0, 0, 0, 29600, 0, *text]] * 90)

    def test_a_lead_as_long_as_fits_continued_often(self):
        text = [122] * 14000 + characters("a ") * 7900
        calls = [sheet(1, height=3, widths=WIDTHS + [122, 122, 0, 0]), paragraphs((1, 0, None, text))]
        asking = [line(3), line(11848), where(0, 29798), where(0, 29799), COLUMNS]
        found = told(*calls, *asking)
        # 7900 lines: three in the first column, two in each further one.
        self.assertEqual(found[1], [0, 7900 + 3949])
        self.assertEqual(found[2], [0, 1, 0, 0, 0, 14001, 1, *text[:14001]])
        self.assertEqual(found[3], [0, 3949, 1, 0, 29798, 29799, 0, 97])
        self.assertEqual(found[4:], [[0, 11848], [-5], [0, 3950]])

    def test_words_without_breaks_are_not_gone_through_again_and_again(self):
        text = [122] * 29000 + characters("a" * 900)
        calls = [sheet(1, height=3, turn=1, widths=[122, 122, 0, 0]), paragraphs((1, 0, 1, text))]
        self.assertEqual(told(*calls)[1], [-5, 0])

    def test_many_paragraphs(self):
        rows = [(1 + number % 3, number // 3, 11, characters("ab cd ef gh")) for number in range(1999)]
        calls = [sheet(5, height=50, gap=1, cut=""), paragraphs(*rows), where(1998, 10), COLUMNS]
        found = told(*calls)
        self.assertEqual(found[1][0], 0)
        self.assertEqual(found[2], [0, found[1][1] - 1])

    def test_2000_paragraphs(self):
        calls = [sheet(9, height=1000), mains(*["ab"] * 2000), line(1999), COLUMNS]
        self.assertEqual(told(*calls)[1:], [[0, 2000], [0, 1, 999, 1999, 0, 2, 0, 97, 98], [0, 2]])

    def test_many_rows_of_widths(self):
        widths = []
        for number in range(256):
            widths += [number * 50, number * 50 + 70, 1 + number % 2, 0]
        text = list(range(0, 58000, 2))
        ends = []
        used = 1001
        for place, character in enumerate(text):
            wide = width_and_kind(widths, character)[0]
            if used + wide > 1000:
                ends.append(place)
                used = 0
            used += wide
        # No row is of kind 2 or a blank, so that each line ends where it is full.
        places = [ends[0], ends[1] - 1, ends[1], ends[-1] - 1, ends[-1], len(text) - 1]
        found = told(sheet(1000, widths=widths), paragraphs((1, 0, 1, text)), *[where(0, place) for place in places])
        self.assertEqual(found[1], [0, len(ends)])
        last = len(ends) - 1
        self.assertEqual(found[2:], [[0, number] for number in (0, 0, 1, last - 1, last, last)])

    def test_many_sheets(self):
        calls = [sheet(9, widths=[number, number + 9, 1, 0] * 20) for number in range(300)]
        self.assertEqual(told(*calls), [[0, 0]] * 300)


if __name__ == "__main__":
    unittest.main()
