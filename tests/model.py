"""The document's words once more, as plainly as they stand and however slow.

It shares no code with the package, so that the two can be held against each other.
"""


def width_and_kind(widths, character):
    """A character goes by the first row that it's of; by none: width 1, plain."""
    for place in range(0, len(widths), 4):
        if widths[place] <= character <= widths[place + 1]:
            return widths[place + 2], widths[place + 3]
    return 1, 0


class Model:
    """A sheet as a dict of its numbers, and what the document says of texts on it."""

    def __init__(self, sheet):
        self.sheet = sheet

    def width(self, text):
        """How wide characters are."""
        return sum(width_and_kind(self.sheet["widths"], character)[0] for character in text)

    def kinds(self, text):
        """The kind of each character."""
        return [width_and_kind(self.sheet["widths"], character)[1] for character in text]

    def room(self, depth, order):
        """The room of a paragraph's line by its depth; order 0 is its first line."""
        room = max(0, self.sheet["width"] - self.sheet["indents"][depth - 1])
        return room if order == 0 else max(0, room - self.sheet["turn"])

    def breaks(self, text):
        """All places that are breaks."""
        kinds = self.kinds(text)
        found = {max(place + 1 for place in range(len(text)) if kinds[place] != 1)}
        for place in range(1, len(text)):
            if kinds[place] == 1 and kinds[place - 1] != 1:
                found.add(place)
        return found | {place + 1 for place in range(len(text)) if kinds[place] == 2}

    def lines(self, paragraph):
        """From and to of each line; None if it can't be set."""
        depth, group, lead, text = paragraph
        kinds = self.kinds(text)
        breaks = self.breaks(text)
        found = []
        begin = 0
        while True:
            while begin < len(text) and kinds[begin] == 1:
                begin += 1
            if begin == len(text):
                return found
            room = self.room(depth, len(found))
            fit = [b for b in range(begin + 1, len(text) + 1) if self.width(text[begin:b]) <= room]
            if not fit:
                return None
            begin, found = self.behind(found, begin, fit, breaks)

    @staticmethod
    def behind(found, begin, fit, breaks):
        """The place behind the next line, and the lines with it."""
        end = max([b for b in fit if b in breaks] or fit)
        return end, found + [(begin, end)]

    def held(self, paragraph):
        """How many of a lead's characters a continued line has."""
        depth, group, lead, text = paragraph
        cut = self.width(self.sheet["cut"])
        return max(k for k in range(lead + 1) if self.width(text[:k]) + cut <= self.sheet["width"])

    def refusal(self, paragraphs):
        """The refusal of a set that a list of calls can hold, None if there's none."""
        depth_before = 0
        for number, (depth, group, lead, text) in enumerate(paragraphs):
            if depth not in (1, 2, 3) or depth > depth_before + 1 or not text or lead not in range(1, len(text) + 1):
                return [-1, number]
            depth_before = depth
        for number, (depth, group, lead, text) in enumerate(paragraphs):
            if set(self.kinds(text)) == {1}:
                return [-6, number]
        for number, paragraph in enumerate(paragraphs):
            if self.lines(paragraph) is None:
                return [-5, number]
        return None

    def needs(self, paragraphs, lines, number, order):
        """The rows that a line needs."""
        if order > 0:
            return 1
        if len(lines[number]) > 1:
            return 2
        if paragraphs[number][0] == 1 and paragraphs[number + 1:] and paragraphs[number + 1][0] != 1:
            return 3 if len(lines[number + 1]) > 1 else 2
        return 1

    def columns(self, paragraphs):
        """What line tells of each line of paragraphs that are not refused."""
        lines = [self.lines(paragraph) for paragraph in paragraphs]
        found = []
        column = row = main = 0
        for number, (depth, group, lead, text) in enumerate(paragraphs):
            if depth == 1:
                main = number
                if number > 0 and paragraphs[number - 1][1] != group and row != 0:
                    row += self.sheet["gap"]
            for order, (begin, end) in enumerate(lines[number]):
                if row + self.needs(paragraphs, lines, number, order) > self.sheet["height"]:
                    column, row = column + 1, 0
                    if depth != 1 or order > 0:
                        held = self.held(paragraphs[main])
                        told = paragraphs[main][3][:held] + self.sheet["cut"]
                        found.append([column, row, main, 0, held, 1, *told])
                        row += 1
                found.append([column, row, number, begin, end, 0, *text[begin:end]])
                row += 1
        return found
