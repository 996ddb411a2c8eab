"""Sheets: pictures shown as lines of signs, and read from them."""

from penwright.errors import BadNote, NoRoom
from penwright.pictures import check_picture, ends_of, picture_box, picture_with

MOST_POINTS = 40
NO_STROKES = "none"
# By way: the sign of a stroke.
STROKE_SIGNS = ("-", "|")


def sheet_of(picture):
    check_picture(picture)
    box = picture_box(picture)
    if box is None:
        return NO_STROKES
    if max(box[2] - box[0], box[3] - box[1]) >= MOST_POINTS:
        raise NoRoom("the picture is too wide or too high")
    return "\n".join([corner_line(box)] + sign_lines(picture, box))


def corner_line(box):
    return " ".join([str(box[0]), str(box[1])])


def sign_lines(picture, box):
    signs = signs_of(picture, box)
    width = 2 * (box[2] - box[0]) + 1
    return [sign_line(signs, row, width) for row in range(2 * (box[3] - box[1]) + 1)]


def sign_line(signs, row, width):
    return "".join([signs.get((row, column), ".") for column in range(width)])


# By (row, column): the signs that aren't dots. Points stand in every second
# row and column, and a stroke halfway between its ends.
def signs_of(picture, box):
    signs = {}
    for stroke in picture:
        places = [(2 * (box[3] - point[1]), 2 * (point[0] - box[0])) for point in ends_of(stroke)]
        for place in places:
            signs[place] = "+"
        halfway = ((places[0][0] + places[1][0]) // 2, (places[0][1] + places[1][1]) // 2)
        signs[halfway] = STROKE_SIGNS[stroke[2]]
    return signs


# Only the signs of strokes are looked at to find the picture: whatever else
# is wrong with the text, the picture's own sheet is then another one.
def read_sheet(text):
    if text == NO_STROKES:
        return ()
    lines = text.split("\n")
    picture = picture_in(lines[1:], corner_in(lines[0]))
    if not is_sheet_of(text, picture):
        raise BadNote("the text shows no picture")
    return picture


def corner_in(line):
    marks = line.split(" ")
    if len(marks) != 2:
        raise BadNote("the first line has two numbers")
    return (number_in(marks[0]), number_in(marks[1]))


def number_in(mark):
    try:
        number = int(mark)
    except ValueError:
        raise BadNote("there is no such number") from None
    return number


def picture_in(lines, corner):
    greatest_y = corner[1] + len(lines) // 2
    strokes = []
    for row in range(len(lines)):
        for column in range(len(lines[row])):
            point = (corner[0] + column // 2, greatest_y - row // 2)
            strokes.extend(strokes_shown(lines[row][column], point))
    return picture_with(strokes)


# The stroke whose sign stands to the right of the point or below it.
def strokes_shown(sign, point):
    if sign == STROKE_SIGNS[0]:
        return [(point[0], point[1], 0)]
    if sign == STROKE_SIGNS[1]:
        return [(point[0], point[1] - 1, 1)]
    return []


def is_sheet_of(text, picture):
    try:
        return sheet_of(picture) == text
    except NoRoom:
        return False
