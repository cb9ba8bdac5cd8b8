"""All promises over many sheets and paragraphs, chosen the same way in each run."""

import random
import unittest

from tests.model import Model
from tests.support import COLUMNS, line, paragraphs, set_lines, sheet, told, where

SIGNS = list(range(8))


def chosen_sheet(chance):
    """A sheet of few numbers, as a dict."""
    widths = []
    for row in range(chance.randint(0, 5)):
        begin = chance.choice(SIGNS)
        end = min(7, begin + chance.choice([0, 0, 1, 2]))
        widths += [begin, end, chance.choice([0, 1, 1, 1, 2, 3]), chance.choice([0, 1, 1, 2])]
    made = {
        "width": chance.choice([3, 4, 5, 6, 8, 12]),
        "height": chance.choice([3, 3, 4, 5, 7]),
        "indents": tuple(chance.choice([0, 0, 1, 2]) for depth in range(3)),
        "turn": chance.choice([0, 0, 1, 2]),
        "gap": chance.choice([0, 1, 2, 4]),
        "widths": widths,
        "cut": [chance.choice(SIGNS) for place in range(chance.randint(0, 3))],
    }
    while Model(made).width(made["cut"]) > made["width"]:
        made["cut"].pop()
    return made


def chosen_paragraphs(chance):
    """Some right paragraphs, now and then one that is refused among them."""
    found = []
    depth = 0
    for number in range(chance.randint(0, 12)):
        depth = chance.randint(1, min(3, depth + 1))
        text = [chance.choice(SIGNS) for place in range(chance.choice([1, 2, 3, 5, 9, 17]))]
        found.append((depth, chance.randint(0, 1), chance.randint(1, len(text)), text))
    if found and chance.randint(0, 9) == 0:
        number = chance.randrange(len(found))
        depth, group, lead, text = found[number]
        found[number] = chance.choice([
            (depth + 2, group, lead, text), (depth, group, 0, text), (depth, group, len(text) + 1, text),
            (depth, group, 1, []), (0, group, lead, text),
        ])
    return found


class OverMany(unittest.TestCase):
    """What is answered over many sheets and paragraphs, promise by promise."""

    @classmethod
    def setUpClass(cls):
        chance = random.Random(20)
        cls.cases = []
        cls.refused = 0
        while len(cls.cases) < 700:
            made, rows = chosen_sheet(chance), chosen_paragraphs(chance)
            calls = [sheet(**made), paragraphs(*rows)]
            answered = told(*calls)[1]
            refusal = Model(made).refusal(rows)
            if refusal is not None or answered[0] != 0:
                cls.refused += 1
                if answered != refusal:
                    raise AssertionError(f"{made} {rows}: {answered}, not {refusal}")
                continue
            cls.cases.append((made, rows, set_lines(*calls)))

    def test_refusals_are_among_them(self):
        self.assertGreater(self.refused, 100)

    def test_1_characters_in_order_each_once(self):
        for made, rows, lines in self.cases:
            kinds = [Model(made).kinds(text) for depth, group, lead, text in rows]
            behind = [0] * len(rows)
            for column, row, number, begin, end, kind, *held in lines:
                if kind == 1:
                    continue
                self.assertEqual(held, rows[number][3][begin:end])
                self.assertLess(begin, end)
                self.assertLessEqual(behind[number], begin)
                self.assertTrue(all(each == 1 for each in kinds[number][behind[number]:begin]))
                self.assertNotEqual(kinds[number][begin], 1)
                behind[number] = end
            for number, end in enumerate(behind):
                self.assertTrue(all(each == 1 for each in kinds[number][end:]))

    def test_1_where_tells_the_line(self):
        for made, rows, lines in self.cases[:300]:
            places = [(number, place) for number, each in enumerate(rows) for place in range(len(each[3]) + 2)]
            found = told(sheet(**made), paragraphs(*rows), *[where(*place) for place in places])[2:]
            for place, answered in zip(places, found):
                of = [
                    order for order, each in enumerate(lines)
                    if each[5] == 0 and each[2] == place[0] and each[3] <= place[1] < each[4]
                ]
                self.assertEqual(answered, [0, of[0]] if of else [-5])

    def test_2_no_line_has_more_than_its_room(self):
        for made, rows, lines in self.cases:
            model = Model(made)
            begun = set()
            for column, row, number, begin, end, kind, *held in lines:
                room = model.room(rows[number][0], 1 if number in begun else 0)
                self.assertLessEqual(model.width(held), made["width"] if kind == 1 else room)
                if kind == 0:
                    begun.add(number)

    def test_3_no_column_has_more_rows_than_the_height(self):
        for made, rows, lines in self.cases:
            for before, behind in zip([[0, -1]] + lines, lines):
                self.assertLess(behind[1], made["height"])
                if before[0] == behind[0]:
                    self.assertLess(before[1], behind[1])
                else:
                    self.assertEqual(behind[:2], [before[0] + 1, 0])

    def test_3_no_first_line_stands_last_ahead_of_what_follows(self):
        for made, rows, lines in self.cases:
            begun = set()
            for each, behind in zip(lines, lines[1:]):
                number = each[2]
                is_first = each[5] == 0 and number not in begun
                if each[5] == 0:
                    begun.add(number)
                if not is_first or behind[0] == each[0]:
                    continue
                own = sum(1 for other in lines if other[2] == number and other[5] == 0)
                self.assertEqual(own, 1)
                self.assertFalse(rows[number][0] == 1 and rows[behind[2] if behind[5] == 0 else number + 1][0] != 1)

    def test_4_each_top_is_a_main_or_its_continued_line(self):
        for made, rows, lines in self.cases:
            begun = set()
            for order, (column, row, number, begin, end, kind, *held) in enumerate(lines):
                self.assertEqual(kind == 1, row == 0 and column > 0 and (kind == 1 or number in begun))
                if kind == 0:
                    if row == 0:
                        self.assertTrue(rows[number][0] == 1 and number not in begun)
                    begun.add(number)
                    continue
                behind = lines[order + 1]
                main = max(each for each in range(behind[2] + 1) if rows[each][0] == 1)
                self.assertEqual((number, begin, end), (main, 0, Model(made).held(rows[main])))
                self.assertEqual(held, rows[main][3][:end] + made["cut"])

    def test_all_lines_are_those_of_the_words(self):
        for made, rows, lines in self.cases:
            self.assertEqual(lines, Model(made).columns(rows))

    def test_columns_are_counted(self):
        for made, rows, lines in self.cases:
            answered = told(sheet(**made), paragraphs(*rows), COLUMNS)[2]
            self.assertEqual(answered, [0, len({each[0] for each in lines})])

    def test_two_runs_answer_the_same(self):
        for made, rows, lines in self.cases[:50]:
            calls = [sheet(**made), paragraphs(*rows), COLUMNS, *[line(number) for number in range(len(lines))]]
            self.assertEqual(told(*calls), told(*calls))


if __name__ == "__main__":
    unittest.main()
