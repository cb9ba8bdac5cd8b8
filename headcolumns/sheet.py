"""A sheet, and how wide and of what kind characters are on it."""

BLANK = 1
BREAK_BEHIND = 2


def measure_by_ranges(ranges, character):
    """Width and kind of a character, from the first of the ranges that it is of."""
    for row in ranges:
        if row[0] <= character <= row[1]:
            return (row[2], row[3])
    return (1, 0)


def stretch_starts(ranges):
    """The characters at which another range may begin to hold, in order."""
    starts = {0: True}
    for row in ranges:
        starts[row[0]] = True
        starts[row[1] + 1] = True
    return sorted(starts.keys())


class Widths:
    """Width and kind of every character, from rows of from, to, width, kind."""

    def __init__(self, ranges):
        # Between two starts all characters go by the same range, so that a
        # character is found by halving instead of by trying every range.
        self.starts = stretch_starts(ranges)
        self.found = [measure_by_ranges(ranges, start) for start in self.starts]

    def measure(self, character):
        """Width and kind of one character."""
        low = 0
        high = len(self.starts)
        while high - low > 1:
            middle = (low + high) // 2
            if self.starts[middle] <= character:
                low = middle
            else:
                high = middle
        return self.found[low]

    def measure_all(self, text):
        """Width and kind of each character of a text."""
        return [self.measure(character) for character in text]

    def total(self, text):
        """How wide all characters of a text are."""
        return sum([measured[0] for measured in self.measure_all(text)])


class Sheet:
    """What the call sheet tells: numbers from width to gap, ranges, the cut."""

    def __init__(self, numbers, ranges, cut):
        self.width = numbers[0]
        self.height = numbers[1]
        self.indents = numbers[2:5]
        self.turn = numbers[5]
        self.gap = numbers[6]
        self.ranges = ranges
        self.widths = Widths(ranges)
        self.cut = cut

    def first_room(self, depth):
        """The room of the first line of a paragraph of a depth."""
        return max(0, self.width - self.indents[depth - 1])

    def later_room(self, depth):
        """The room of the other lines of a paragraph of a depth."""
        return max(0, self.first_room(depth) - self.turn)

    def lead_room(self):
        """The room that the cut leaves for the lead in a continued line."""
        return self.width - self.widths.total(self.cut)
