"""Great words: the box that a word draws in, and how often it draws a stroke, however great its numbers are."""

from penwright.errors import NoRoom
from penwright.pictures import check_stroke, ends_of
from penwright.words import START, check_word, led, pen_behind, pen_behind_deed, pen_repeated

MOST_LOOKED_AT = 1000


def box_of(word):
    check_word(word)
    return word_box(word)


def word_box(word):
    box = None
    pen = START
    for deed in word:
        box = box_round(box, box_from(pen, deed_box(deed)))
        pen = led(pen, pen_behind_deed(deed))
    return box


def deed_box(deed):
    if deed[1] == 0:
        return None
    if deed[0] == "go":
        return (0, 0, deed[1], 0)
    if deed[0] == "times":
        return box_repeated(word_box(deed[2]), pen_behind(deed[2]), deed[1])
    return None


def box_repeated(box, part, number):
    whole = None
    for doing in outermost_doings(part, number):
        whole = box_round(whole, box_from(pen_repeated(part, doing), box))
    return whole


# Doings that don't turn the pen lie in a row, the first and the last of them
# outermost; those that do turn it come again by four.
def outermost_doings(part, number):
    if part[2] == 0:
        return [0, number - 1]
    return list(range(min(number, 4)))


def box_round(one, other):
    if one is None:
        return other
    if other is None:
        return one
    least = (min(one[0], other[0]), min(one[1], other[1]))
    return least + (max(one[2], other[2]), max(one[3], other[3]))


# The box that lies so from START on, set down at `pen` instead.
def box_from(pen, box):
    if box is None:
        return None
    corner = led(pen, (box[0], box[1], 0))
    other = led(pen, (box[2], box[3], 0))
    least = (min(corner[0], other[0]), min(corner[1], other[1]))
    return least + (max(corner[0], other[0]), max(corner[1], other[1]))


def drawn_often(word, stroke):
    check_word(word)
    check_stroke(stroke)
    return often_in_word(word, START, Look(stroke))


# The stroke that is looked for, and how many doings may yet be looked at.
class Look:
    def __init__(self, stroke):
        ends = ends_of(stroke)
        self.least = ends[0]
        self.greatest = ends[1]
        self.left = MOST_LOOKED_AT

    def is_within(self, box):
        if box is None:
            return False
        low = box[0] <= self.least[0] and box[1] <= self.least[1]
        return low and self.greatest[0] <= box[2] and self.greatest[1] <= box[3]

    def count_doing(self):
        if self.left == 0:
            raise NoRoom("too many doings would be looked at")
        self.left = self.left - 1


def often_in_word(word, pen, look):
    often = 0
    here = pen
    for deed in word:
        often = often + often_in_deed(deed, here, look)
        here = led(here, pen_behind_deed(deed))
    return often


def often_in_deed(deed, pen, look):
    if deed[0] == "times":
        return often_in_times(deed[1], deed[2], pen, look)
    # The box of a go is as narrow as the strokes that it draws.
    return 1 if look.is_within(box_from(pen, deed_box(deed))) else 0


def often_in_times(number, word, pen, look):
    part = pen_behind(word)
    box = word_box(word)
    often = 0
    span = doings_to_ask(number, part, pen, box, look)
    for doing in range(span[0], span[1]):
        start = led(pen, pen_repeated(part, doing))
        if look.is_within(box_from(start, box)):
            look.count_doing()
            often = often + doings_like(doing, number, part) * often_in_word(word, start, look)
    return often


# The doings that may draw the stroke: from the first to one ahead of the second.
def doings_to_ask(number, part, pen, box, look):
    if box is None:
        return (0, 0)
    if part == START:
        return (0, min(number, 1))
    if part[2] != 0:
        return (0, min(number, 4))
    first = box_from(pen, box)
    second = box_from(led(pen, part), box)
    x_span = span_of_doings(number, first[0], first[2], second[0] - first[0], look.least[0], look.greatest[0])
    y_span = span_of_doings(number, first[1], first[3], second[1] - first[1], look.least[1], look.greatest[1])
    return (max(x_span[0], y_span[0]), min(x_span[1], y_span[1]))


# Of the ranges from low to high, moved by the shift once more with each doing,
# those that have all from least to greatest.
def span_of_doings(number, low, high, shift, least, greatest):
    if shift < 0:
        return span_of_doings(number, -high, -low, -shift, -greatest, -least)
    if shift == 0:
        return (0, number) if low <= least and greatest <= high else (0, 0)
    first = -((high - greatest) // shift)
    last = (least - low) // shift
    return (max(0, first), min(number, last + 1))


# How many doings draw what this one draws, itself with them.
def doings_like(doing, number, part):
    if part == START:
        return number
    if part[2] != 0:
        return (number - doing + 3) // 4
    return 1
