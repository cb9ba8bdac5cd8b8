"""The lines of one paragraph, as places of its text.

A text stands here as its measures: width and kind of each of its characters.
"""

from headcolumns.sheet import BLANK, BREAK_BEHIND


def is_blank(measured):
    """Whether a character with this measure is a blank."""
    return measured[1] == BLANK


def text_end(measures):
    """The place behind the last character that is no blank, 0 if all are blanks."""
    end = len(measures)
    while end > 0 and is_blank(measures[end - 1]):
        end -= 1
    return end


def behind_blanks(measures, place):
    """The first place from this one on that is none of a blank."""
    while place < len(measures) and is_blank(measures[place]):
        place += 1
    return place


def is_break(measures, place, end):
    """Whether a line may end before a place from 1 to the text's end."""
    before = measures[place - 1]
    if place == end or before[1] == BREAK_BEHIND:
        return True
    return is_blank(measures[place]) and not is_blank(before)


def fitting(measures, begin, end, room):
    """The greatest place up to end before which the characters from begin on fit."""
    used = 0
    place = begin
    while place < end and used + measures[place][0] <= room:
        used += measures[place][0]
        place += 1
    return place


def line_end(measures, begin, end, room):
    """The place before which a line ends, begin itself if no character fits."""
    most = fitting(measures, begin, end, room)
    place = most
    while place > begin and not is_break(measures, place, end):
        place -= 1
    if place > begin:
        return place
    return most


def line_places(measures, first_room, later_room):
    """From and to of each line in order; None if the paragraph can't be set."""
    places = []
    end = text_end(measures)
    begin = behind_blanks(measures, 0)
    room = first_room
    while begin < end:
        behind = line_end(measures, begin, end, room)
        if behind == begin:
            return None
        places.append((begin, behind))
        begin = behind_blanks(measures, behind)
        room = later_room
    return places
