"""For ever: what a short word draws when it is done without an end."""

from penwright.errors import NoRoom
from penwright.pictures import check_stroke, moved_stroke, picture_with, plain_deeds, strokes_from
from penwright.words import START, check_word, count_strokes, is_small, led, pen_behind

MOST_POINTS = 60
# Four doings of a short word stay within 4 * 60 points round (0, 0), and one
# begins to draw within 60: this many doings lead a shifted stroke beyond.
DOINGS_BEYOND = 310


def check_short(word):
    if not is_small(word) or points_gone(word) > MOST_POINTS:
        raise NoRoom("the word is not short")


def points_gone(word):
    return sum([abs(deed[1]) for deed in plain_deeds(word) if deed[0] != "turn"])


def check_short_words(one, other):
    check_word(one)
    check_word(other)
    check_short(one)
    check_short(other)


def ever_of(word):
    check_short(word)
    return drawn_for_ever(word)


def drawn_for_ever(word):
    pen = pen_behind(word)
    if pen[2] != 0 or pen == START or count_strokes(word) == 0:
        return (picture_of_four(word, pen), None)
    return (picture_with(strokes_from(START, word)), (pen[0], pen[1]))


def picture_of_four(word, part):
    strokes = []
    pen = START
    for doing in range(4):
        strokes.extend(strokes_from(pen, word))
        pen = led(pen, part)
    return picture_with(strokes)


def ever_drawn(word, stroke):
    check_short(word)
    check_stroke(stroke)
    return is_drawn(word, stroke)


def is_drawn(word, stroke):
    ever = drawn_for_ever(word)
    return is_in_lanes(lanes_of(ever), ever[1], stroke)


# A lane has all strokes that come to one another by the shift. It is named by
# the one of them that lies next to nought; the others have numbers by how often
# the shift leads there.
def lane_and_number(stroke, shift):
    if shift is None:
        return (stroke, 0)
    number = stroke[0] // shift[0] if shift[0] != 0 else stroke[1] // shift[1]
    return (moved_stroke(stroke, -number * shift[0], -number * shift[1]), number)


# By lane: the number of the first stroke in it that is drawn; with it all
# behind it are.
def lanes_of(ever):
    lanes = {}
    for stroke in ever[0]:
        place = lane_and_number(stroke, ever[1])
        lanes[place[0]] = min(place[1], lanes.get(place[0], place[1]))
    return lanes


def is_in_lanes(lanes, shift, stroke):
    place = lane_and_number(stroke, shift)
    return place[0] in lanes and lanes[place[0]] <= place[1]


def alike_ever(one, other):
    return parting_ever(one, other) is None


def parting_ever(one, other):
    check_short_words(one, other)
    first = drawn_for_ever(one)
    second = drawn_for_ever(other)
    stroke = stroke_in_first_alone(first, second)
    if stroke is None:
        return stroke_in_first_alone(second, first)
    return stroke


def stroke_in_first_alone(first, second):
    lanes = lanes_of(second)
    for doing in range(doings_to_ask(first[1], second[1])):
        for stroke in doing_of(first, doing):
            if not is_in_lanes(lanes, second[1], stroke):
                return stroke
    return None


def doing_of(ever, doing):
    if doing == 0:
        return ever[0]
    return [moved_stroke(stroke, doing * ever[1][0], doing * ever[1][1]) for stroke in ever[0]]


# In how many doings of the first a stroke is to be found that the second
# doesn't draw, if there is one.
def doings_to_ask(shift, other):
    if shift is None:
        return 1
    # At most 60 doings of the first go as far as some doings of the second: a
    # stroke that the second draws is drawn by it, too, so many doings farther.
    if other is not None and is_one_direction(shift, other):
        return MOST_POINTS
    # Else the first leaves the second behind, or crosses each of its at most
    # 60 lanes once.
    return DOINGS_BEYOND


def is_one_direction(shift, other):
    across = shift[0] * other[1] - shift[1] * other[0]
    along = shift[0] * other[0] + shift[1] * other[1]
    return across == 0 and along > 0


def parts_ever(one, other, stroke):
    check_short_words(one, other)
    check_stroke(stroke)
    return is_drawn(one, stroke) != is_drawn(other, stroke)
