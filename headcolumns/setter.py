"""A setter, its calls, and the answers to a list of calls."""

from headcolumns.columns import Paragraph, lines_in_columns
from headcolumns.sheet import Sheet

CALL_SHEET = 1
CALL_SET = 2
CALL_LINE = 3
CALL_WHERE = 4

LEAST_HEIGHT = 3
MOST_HEIGHT = 1000
MOST_GAP = 100
MOST_WIDTH = 1000000
MOST_RANGES = 256
MOST_CUT = 64
MOST_KIND = 2
MOST_DEPTH = 3
MOST_TEXT = 65535
MOST_TEXTS = 262144
MOST_LINES = 65536


def is_beyond_limits(sheet):
    """Whether a sheet's height, gap or width, its ranges or its cut are."""
    if not LEAST_HEIGHT <= sheet.height <= MOST_HEIGHT:
        return True
    if sheet.gap > MOST_GAP or sheet.width > MOST_WIDTH:
        return True
    return len(sheet.ranges) > MOST_RANGES or len(sheet.cut) > MOST_CUT


def has_wrong_range(sheet):
    """Whether one of a sheet's rows of from, to, width and kind can't be."""
    return any([row[0] > row[1] or row[3] > MOST_KIND for row in sheet.ranges])


def sheet_refusal(sheet):
    """The answer if a sheet is refused, or None."""
    if is_beyond_limits(sheet):
        return [-1]
    if has_wrong_range(sheet):
        return [-2]
    if sheet.lead_room() < 0:
        return [-3]
    return None


def is_right(paragraph, depth_before):
    """Whether a paragraph can stand behind one of a depth (0: behind none)."""
    if not 1 <= paragraph.depth <= min(MOST_DEPTH, depth_before + 1):
        return False
    size = len(paragraph.text)
    return 1 <= size <= MOST_TEXT and 1 <= paragraph.lead <= size


def first_not_right(paragraphs):
    """The number of the first paragraph that is not right, None if all are."""
    depth = 0
    for number, paragraph in enumerate(paragraphs):
        if not is_right(paragraph, depth):
            return number
        depth = paragraph.depth
    return None


def first_blanks_alone(paragraphs):
    """The number of the first paragraph of blanks alone, None if there's none."""
    for number, paragraph in enumerate(paragraphs):
        if paragraph.is_blanks_alone():
            return number
    return None


def first_not_broken(paragraphs, sheet):
    """Break the paragraphs; the number of the first that can't be set, or None."""
    for number, paragraph in enumerate(paragraphs):
        if not paragraph.break_on(sheet):
            return number
    return None


def paragraphs_refusal(paragraphs, sheet):
    """Measure and break the paragraphs; the answer if that is refused, or None."""
    number = first_not_right(paragraphs)
    if number is not None:
        return [-1, number]
    if sum([len(paragraph.text) for paragraph in paragraphs]) > MOST_TEXTS:
        return [-7]
    for paragraph in paragraphs:
        paragraph.measure_on(sheet)
    number = first_blanks_alone(paragraphs)
    if number is not None:
        return [-6, number]
    number = first_not_broken(paragraphs, sheet)
    if number is not None:
        return [-5, number]
    return None


def standing_places(lines):
    """For each paragraph and place that stands in a line: the line's number."""
    standing = {}
    for order, line in enumerate(lines):
        if not line.is_continued:
            for place in range(line.begin, line.behind):
                standing[(line.number, place)] = order
    return standing


class Setter:
    """A sheet and the lines that are set on it.

    What a call answers is a list: 0 and what is told, or a refusal's number
    below 0 and what is told with it.
    """

    def __init__(self):
        self.sheet = Sheet([0, LEAST_HEIGHT, 0, 0, 0, 0, 0], [], [])
        self.keep_lines([], [])

    def keep_lines(self, paragraphs, lines):
        """Put these lines in the place of those before."""
        self.paragraphs = paragraphs
        self.lines = lines
        self.standing = standing_places(lines)

    def set_sheet(self, sheet):
        """The call sheet."""
        refusal = sheet_refusal(sheet)
        if refusal is not None:
            return refusal
        self.sheet = sheet
        self.keep_lines([], [])
        return [0, 0]

    def set_paragraphs(self, paragraphs):
        """The call set."""
        refusal = paragraphs_refusal(paragraphs, self.sheet)
        if refusal is not None:
            return refusal
        lines = lines_in_columns(self.sheet, paragraphs)
        if len(lines) > MOST_LINES:
            return [-4]
        self.keep_lines(paragraphs, lines)
        return [0, len(lines)]

    def tell_line(self, order):
        """The call line."""
        if order >= len(self.lines):
            return [-5]
        line = self.lines[order]
        told = [0, line.column, line.row, line.number, line.begin, line.behind]
        told.append(int(line.is_continued))
        told.extend(self.paragraphs[line.number].text[line.begin:line.behind])
        if line.is_continued:
            told.extend(self.sheet.cut)
        return told

    def tell_where(self, paragraph, place):
        """The call where."""
        order = self.standing.get((paragraph, place))
        if order is None:
            return [-5]
        return [0, order]

    def tell_columns(self):
        """The call columns."""
        if len(self.lines) == 0:
            return [0, 0]
        return [0, self.lines[-1].column + 1]


class Reader:
    """Goes through a list of calls from its beginning to its end."""

    def __init__(self, calls):
        self.calls = calls
        self.place = 0

    def is_at_end(self):
        """Whether all calls are read."""
        return self.place == len(self.calls)

    def read_number(self):
        """One number."""
        number = self.calls[self.place]
        self.place += 1
        return number

    def read_list(self):
        """How many numbers there are, then these: a list of its own."""
        size = self.read_number()
        begin = self.place
        self.place += size
        return self.calls[begin:self.place]

    def read_lists(self):
        """How many lists there are, then these."""
        lists = []
        for order in range(self.read_number()):
            lists.append(self.read_list())
        return lists


def sheet_of(numbers, lists):
    """The sheet that is handed over, its widths' numbers in rows of four."""
    widths = lists[0]
    ranges = [widths[place:place + 4] for place in range(0, len(widths), 4)]
    return Sheet(numbers, ranges, lists[1])


def answer(setter, call, numbers, lists):
    """What a setter answers to one call."""
    if call == CALL_SHEET:
        return setter.set_sheet(sheet_of(numbers, lists))
    if call == CALL_SET:
        return setter.set_paragraphs([Paragraph(own) for own in lists])
    if call == CALL_LINE:
        return setter.tell_line(numbers[0])
    if call == CALL_WHERE:
        return setter.tell_where(numbers[0], numbers[1])
    return setter.tell_columns()


def answers(calls):
    """The answers to a list of calls on a new setter, each behind its length."""
    setter = Setter()
    reader = Reader(calls)
    told = []
    while not reader.is_at_end():
        call = reader.read_number()
        numbers = reader.read_list()
        lists = reader.read_lists()
        answered = answer(setter, call, numbers, lists)
        told.append(len(answered))
        told.extend(answered)
    return told
