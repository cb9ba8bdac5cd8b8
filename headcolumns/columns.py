"""Sets the lines of paragraphs one below another, in columns."""

from headcolumns.breaking import fitting, line_places, text_end


class Paragraph:
    """A paragraph as it is handed over, and what a sheet's widths say of it."""

    def __init__(self, numbers):
        self.depth = numbers[0]
        self.group = numbers[1]
        self.lead = numbers[2]
        self.text = numbers[3:]
        self.measures = []
        self.places = []

    def measure_on(self, sheet):
        """Measure the text by the widths of a sheet."""
        self.measures = sheet.widths.measure_all(self.text)

    def is_blanks_alone(self):
        """Whether no character of the measured text is other than a blank."""
        return text_end(self.measures) == 0

    def break_on(self, sheet):
        """Break the measured text into lines; False if it can't be set."""
        first_room = sheet.first_room(self.depth)
        places = line_places(self.measures, first_room, sheet.later_room(self.depth))
        if places is None:
            return False
        self.places = places
        return True


def first_line_needs(paragraphs, number):
    """How many rows the first line of a paragraph needs."""
    paragraph = paragraphs[number]
    if len(paragraph.places) > 1:
        return 2
    if paragraph.depth == 1 and number + 1 < len(paragraphs):
        lower = paragraphs[number + 1]
        if lower.depth != 1:
            return 1 + min(2, len(lower.places))
    return 1


class Line:
    """A line that is set: where it stands, and what of a paragraph it holds."""

    def __init__(self, column, row, number, begin, behind, is_continued):
        self.column = column
        self.row = row
        self.number = number
        self.begin = begin
        self.behind = behind
        self.is_continued = is_continued


class Columns:
    """Columns that are filled line by line."""

    def __init__(self, sheet):
        self.sheet = sheet
        self.lines = []
        self.column = 0
        self.row = 0
        self.main = 0
        self.held = 0

    def put_line(self, number, begin, behind, is_continued):
        """Let a line of the paragraph of this number stand at the row."""
        line = Line(self.column, self.row, number, begin, behind, is_continued)
        self.lines.append(line)
        self.row += 1

    def begin_main(self, paragraphs, number):
        """Let a paragraph of depth 1 be the main of the lines from here on."""
        main = paragraphs[number]
        # Where the row isn't 0, lines stand above, so there's a paragraph before.
        if self.row != 0 and main.group != paragraphs[number - 1].group:
            self.row += self.sheet.gap
        self.main = number
        # Told once for each main: a long lead may be continued in many columns.
        self.held = fitting(main.measures, 0, main.lead, self.sheet.lead_room())

    def make_room(self, needs, begins_main):
        """Go on to the next column if the rows that are needed are not there."""
        if self.row + needs <= self.sheet.height:
            return
        self.column += 1
        self.row = 0
        if not begins_main:
            self.put_line(self.main, 0, self.held, True)

    def put_paragraph(self, paragraphs, number):
        """Set all lines of a paragraph."""
        is_main = paragraphs[number].depth == 1
        if is_main:
            self.begin_main(paragraphs, number)
        for order, place in enumerate(paragraphs[number].places):
            if order == 0:
                self.make_room(first_line_needs(paragraphs, number), is_main)
            else:
                self.make_room(1, False)
            self.put_line(number, place[0], place[1], False)


def lines_in_columns(sheet, paragraphs):
    """All lines of broken paragraphs in order, continued ones among them."""
    columns = Columns(sheet)
    for number in range(len(paragraphs)):
        columns.put_paragraph(paragraphs, number)
    return columns.lines
