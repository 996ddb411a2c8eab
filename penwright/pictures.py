"""Pictures: what draws them, what is made of them, and which of them have one shape."""

from penwright.errors import NoPicture, NoRoom
from penwright.words import AHEAD, START, count_done_of_deed, is_small, led, pen_behind_deed

WAYS = (0, 1)
# (mirrored, quarters): a picture can be laid down so, but for moving it.
LAYINGS = ((0, 0), (0, 1), (0, 2), (0, 3), (1, 0), (1, 1), (1, 2), (1, 3))


def check_picture(picture):
    for stroke in picture:
        check_stroke(stroke)
    for place in range(1, len(picture)):
        if picture[place - 1] >= picture[place]:
            raise NoPicture("the strokes of a picture rise, each once")


def check_stroke(stroke):
    if len(stroke) != 3 or stroke[2] not in WAYS:
        raise NoPicture("there is no such stroke")


def check_pictures(one, other):
    check_picture(one)
    check_picture(other)


def ends_of(stroke):
    if stroke[2] == 0:
        return ((stroke[0], stroke[1]), (stroke[0] + 1, stroke[1]))
    return ((stroke[0], stroke[1]), (stroke[0], stroke[1] + 1))


# The points are next to one another, in whichever order.
def stroke_between(point, other):
    low = min(point, other)
    return (low[0], low[1], 0 if point[1] == other[1] else 1)


def strokes_along(points):
    return [stroke_between(points[place - 1], points[place]) for place in range(1, len(points))]


def picture_with(strokes):
    return tuple(sorted(set(strokes)))


# The least x and y and the greatest x and y of all points at which strokes
# end, or None.
def picture_box(picture):
    if len(picture) == 0:
        return None
    least = [ends_of(stroke)[0] for stroke in picture]
    greatest = [ends_of(stroke)[1] for stroke in picture]
    corner = (min([point[0] for point in least]), min([point[1] for point in least]))
    return corner + (max([point[0] for point in greatest]), max([point[1] for point in greatest]))


def picture_of(word):
    if not is_small(word):
        raise NoRoom("the word is not small")
    return picture_with(strokes_from(START, word))


# The strokes that a small word draws, as often as it draws them.
def strokes_from(pen, word):
    strokes = []
    here = pen
    for deed in plain_deeds(word):
        if deed[0] == "go":
            strokes.extend(strokes_of_go(here, deed[1]))
        here = led(here, pen_behind_deed(deed))
    return strokes


# The deeds go, jump and turn that a small word goes through.
def plain_deeds(word):
    deeds = []
    for deed in word:
        if deed[0] != "times":
            deeds.append(deed)
        # A small word may do nothing very often: that is not gone through.
        elif count_done_of_deed(deed) > 0:
            deeds.extend(plain_deeds(deed[2]) * deed[1])
    return deeds


def strokes_of_go(pen, number):
    ahead = AHEAD[pen[2]]
    points = [(pen[0] + ahead[0] * far, pen[1] + ahead[1] * far) for far in range(number + 1)]
    return strokes_along(points)


def moved_picture(picture, x, y):
    check_picture(picture)
    return tuple([moved_stroke(stroke, x, y) for stroke in picture])


def moved_stroke(stroke, x, y):
    return (stroke[0] + x, stroke[1] + y, stroke[2])


def turned_picture(picture, quarters):
    check_picture(picture)
    return tuple(sorted([turned_stroke(stroke, quarters % 4) for stroke in picture]))


def turned_stroke(stroke, quarters):
    ends = ends_of(stroke)
    return stroke_between(turned_point(ends[0], quarters), turned_point(ends[1], quarters))


# As a pen at (0, 0) turns, so does whatever lies ahead of it.
def turned_point(point, quarters):
    pen = led((0, 0, quarters), (point[0], point[1], 0))
    return (pen[0], pen[1])


def mirrored_picture(picture):
    check_picture(picture)
    return tuple(sorted([mirrored_stroke(stroke) for stroke in picture]))


def mirrored_stroke(stroke):
    ends = ends_of(stroke)
    return stroke_between((-ends[0][0], ends[0][1]), (-ends[1][0], ends[1][1]))


def both_pictures(one, other):
    check_pictures(one, other)
    return picture_with(one + other)


def common_picture(one, other):
    check_pictures(one, other)
    return tuple(sorted(set(one) & set(other)))


def without_picture(one, other):
    check_pictures(one, other)
    return tuple(sorted(set(one) - set(other)))


def parting_stroke(one, other):
    check_pictures(one, other)
    parting = sorted(set(one) ^ set(other))
    if len(parting) == 0:
        return None
    return parting[0]


def kept_by(picture):
    check_picture(picture)
    ways = []
    for laying in LAYINGS:
        shift = shift_between(laid(picture, laying), picture)
        if shift is not None:
            ways.append((laying[0], laying[1], shift[0], shift[1]))
    return ways


def same_shape(one, other):
    check_pictures(one, other)
    return any([shift_between(laid(one, laying), other) is not None for laying in LAYINGS])


def laid(picture, laying):
    if laying[0] == 1:
        return turned_picture(mirrored_picture(picture), laying[1])
    return turned_picture(picture, laying[1])


# The (x, y) by which the first, moved, is the second, or None. Moving keeps
# the order of strokes, so the first strokes tell the only one that could be.
def shift_between(one, other):
    if len(one) != len(other):
        return None
    if len(one) == 0:
        return (0, 0)
    shift = (other[0][0] - one[0][0], other[0][1] - one[0][1])
    if moved_picture(one, shift[0], shift[1]) != other:
        return None
    return shift
