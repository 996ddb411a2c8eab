"""Words: what is one, where it leads a pen, and how much it draws and does."""

from penwright.errors import NoWord

MOST_DEEDS = 30
MOST_DEEP = 4
MOST_FIGURES = 20
GREATEST_NUMBER = 99999999999999999999
MOST_OF_SMALL = 400

PLAIN_KINDS = ("go", "jump", "turn")
KINDS_FROM_NOUGHT = ("go", "times")

START = (0, 0, 0)
# By heading: what one point ahead adds to x and to y.
AHEAD = ((1, 0), (0, 1), (-1, 0), (0, -1))


def deeds_in(word):
    return checked_count(word, 0)


def check_word(word):
    checked_count(word, 0)


# Counting and checking go together: whatever is too deep or too long is
# refused on the way, so a huge tuple is never walked to its end.
def checked_count(word, depth):
    if not isinstance(word, tuple):
        raise NoWord("a word is a tuple of deeds")
    if depth > MOST_DEEP:
        raise NoWord("times stand too deep within one another")
    count = 0
    for deed in word:
        count = count + checked_deed_count(deed, depth)
        if count > MOST_DEEDS:
            raise NoWord("a word has too many deeds")
    return count


def checked_deed_count(deed, depth):
    if not isinstance(deed, tuple):
        raise NoWord("a deed is a tuple")
    if len(deed) == 2 and deed[0] in PLAIN_KINDS:
        check_number(deed[0], deed[1])
        return 1
    if len(deed) == 3 and deed[0] == "times":
        check_number(deed[0], deed[1])
        return 1 + checked_count(deed[2], depth + 1)
    raise NoWord("there is no such deed")


def check_number(kind, number):
    if not isinstance(number, int):
        raise NoWord("a deed has a whole number")
    if abs(number) > GREATEST_NUMBER:
        raise NoWord("a number has too many figures")
    if number < 0 and kind in KINDS_FROM_NOUGHT:
        raise NoWord("this deed has a number from nought on")


def pen_after(word):
    return carried(START, word)


def carried(pen, word):
    check_word(word)
    return led(pen, pen_behind(word))


# The pen that comes to `part` from START on, set down at `pen` instead.
def led(pen, part):
    ahead = AHEAD[pen[2]]
    x = pen[0] + part[0] * ahead[0] - part[1] * ahead[1]
    y = pen[1] + part[0] * ahead[1] + part[1] * ahead[0]
    return (x, y, (pen[2] + part[2]) % 4)


def pen_behind(word):
    pen = START
    for deed in word:
        pen = led(pen, pen_behind_deed(deed))
    return pen


def pen_behind_deed(deed):
    if deed[0] == "turn":
        return (0, 0, deed[1] % 4)
    if deed[0] == "times":
        return pen_repeated(pen_behind(deed[2]), deed[1])
    return (deed[1], 0, 0)


def pen_repeated(part, number):
    if part[2] == 0:
        return (part[0] * number, part[1] * number, 0)
    # A word that turns the pen brings it back where it was, looking as it
    # did, by four doings: only what is left over of them counts.
    pen = START
    for doing in range(number % 4):
        pen = led(pen, part)
    return pen


def strokes_drawn(word):
    check_word(word)
    return count_strokes(word)


def count_strokes(word):
    return sum([count_strokes_of_deed(deed) for deed in word])


def count_strokes_of_deed(deed):
    if deed[0] == "go":
        return deed[1]
    if deed[0] == "times":
        return deed[1] * count_strokes(deed[2])
    return 0


def deeds_done(word):
    check_word(word)
    return count_done(word)


def count_done(word):
    return sum([count_done_of_deed(deed) for deed in word])


def count_done_of_deed(deed):
    if deed[0] == "times":
        return deed[1] * count_done(deed[2])
    return 1


def is_small(word):
    return strokes_drawn(word) <= MOST_OF_SMALL and deeds_done(word) <= MOST_OF_SMALL
