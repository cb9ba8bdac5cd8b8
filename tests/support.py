"""Calls as lists of numbers, and answers taken apart again."""

from headcolumns.setter import answers

# A blank and a hyphen, both of width 1; a letter is of no range: width 1, plain.
WIDTHS = [32, 32, 1, 1, 45, 45, 1, 2]
MOST = 4294967295
COLUMNS = [5, 0, 0]
# The longest list of calls that is handed in.
MOST_CALLS = 300
MOST_NUMBERS = 31000


def characters(text):
    """The characters of a text that is written as one, or handed on as numbers."""
    return [ord(sign) for sign in text] if isinstance(text, str) else list(text)


def sheet(width, height=1000, indents=(0, 0, 0), turn=0, gap=0, widths=WIDTHS, cut=""):
    """A call of sheet."""
    cut = characters(cut)
    numbers = [width, height, *indents, turn, gap]
    return [1, 7, *numbers, 2, len(widths), *widths, len(cut), *cut]


def paragraphs(*rows):
    """A call of set; a row is depth, group, lead (None: all), text."""
    call = [2, 0, len(rows)]
    for depth, group, lead, text in rows:
        text = characters(text)
        lead = len(text) if lead is None else lead
        call += [3 + len(text), depth, group, lead, *text]
    return call


def mains(*texts):
    """A call of set whose paragraphs have depth 1, group 0 and their texts as lead."""
    return paragraphs(*[(1, 0, None, text) for text in texts])


def line(number):
    """A call of line."""
    return [3, 1, number, 0]


def where(paragraph, place):
    """A call of where."""
    return [4, 2, paragraph, place, 0]


def joined(calls):
    """The calls as the one list that is handed in."""
    whole = []
    for call in calls:
        whole += call
    return whole


def apart(answered):
    """The answers to each call, from the one list that is given back."""
    each = []
    place = 0
    while place < len(answered):
        size = answered[place]
        each.append(answered[place + 1:place + 1 + size])
        place += 1 + size
    return each


def told(*calls):
    """What each of these calls is answered on a new setter."""
    whole = joined(calls)
    if len(calls) > MOST_CALLS or len(whole) > MOST_NUMBERS:
        raise AssertionError(f"{len(calls)} calls of {len(whole)} numbers are not handed in")
    each = apart(answers(whole))
    if len(each) != len(calls):
        raise AssertionError(f"{len(calls)} calls have {len(each)} answers")
    return each


def set_lines(sheet_call, set_call):
    """What line tells of each line that is set, without the 0 ahead."""
    counted = told(sheet_call, set_call)[1]
    if counted[0] != 0:
        raise AssertionError(f"refused: {counted}")
    found = []
    for begin in range(0, counted[1], MOST_CALLS - 2):
        end = min(begin + MOST_CALLS - 2, counted[1])
        calls = [line(number) for number in range(begin, end)]
        found += [each[1:] for each in told(sheet_call, set_call, *calls)[2:]]
    return found


def broken(sheet_call, *texts):
    """From and to of each line of paragraphs of depth 1 in one long column."""
    return [tuple(each[3:5]) for each in set_lines(sheet_call, mains(*texts))]


def standing(sheet_call, set_call):
    """Column, row, paragraph and kind of each line that is set."""
    return [(*each[:3], each[5]) for each in set_lines(sheet_call, set_call)]


def shown(each):
    """The characters of a line as a written text."""
    return "".join(chr(number) for number in each[6:])
