"""A desk: it keeps words by names, and is told and asked by lines."""

from penwright.errors import BadNote, NoRoom, NoWord
from penwright.notes import read, shown
from penwright.pictures import parting_stroke, picture_of, same_shape
from penwright.trails import trails_needed
from penwright.words import check_word, pen_after, strokes_drawn

LETTERS = "abcdefghijklmnopqrstuvwxyz"
MOST_LETTERS = 8
# How many names a line has behind its first mark; keep has a word, too.
NAMES_IN_LINE = {
    "drop": 1,
    "join": 3,
    "show": 1,
    "names": 0,
    "pen": 1,
    "drawn": 1,
    "strokes": 1,
    "trails": 1,
    "same": 2,
    "shape": 2,
}

KEPT = "kept"
BAD_LINE = "bad line"
NO_SUCH_NAME = "no such name"
TOO_GREAT = "too great"


def is_line(marks):
    if marks[0] not in NAMES_IN_LINE or len(marks) != 1 + NAMES_IN_LINE[marks[0]]:
        return False
    return all([is_name(mark) for mark in marks[1:]])


def is_name(mark):
    if len(mark) == 0 or len(mark) > MOST_LETTERS:
        return False
    return all([sign in LETTERS for sign in mark])


def written(numbers):
    return " ".join([str(number) for number in numbers])


def show_answer(words):
    return shown(words[0])


def pen_answer(words):
    return written(pen_after(words[0]))


def drawn_answer(words):
    return written([strokes_drawn(words[0])])


def strokes_answer(words):
    return written([len(picture_of(words[0]))])


def trails_answer(words):
    return written([trails_needed(picture_of(words[0]))])


def same_answer(words):
    stroke = parting_stroke(picture_of(words[0]), picture_of(words[1]))
    if stroke is None:
        return "same"
    return "unlike at " + written(stroke)


def shape_answer(words):
    return "yes" if same_shape(picture_of(words[0]), picture_of(words[1])) else "no"


# By the first mark of a line that asks and changes nothing.
ANSWERS = {
    "show": show_answer,
    "pen": pen_answer,
    "drawn": drawn_answer,
    "strokes": strokes_answer,
    "trails": trails_answer,
    "same": same_answer,
    "shape": shape_answer,
}


class Desk:
    def __init__(self):
        self.words = {}

    def all_words(self):
        return dict(self.words)

    def say(self, line):
        marks = line.split(" ")
        if marks[0] == "keep":
            return self.keep_read(marks)
        if not is_line(marks):
            return BAD_LINE
        # The first name of join is a new one, and needn't be there.
        names = marks[2:] if marks[0] == "join" else marks[1:]
        if not all([name in self.words for name in names]):
            return NO_SUCH_NAME
        return self.answer(marks, [self.words[name] for name in names])

    def keep_read(self, marks):
        if len(marks) < 2 or not is_name(marks[1]) or marks[2:] == [""]:
            return BAD_LINE
        try:
            word = read(" ".join(marks[2:]))
        except BadNote:
            return BAD_LINE
        self.words[marks[1]] = word
        return KEPT

    def answer(self, marks, words):
        if marks[0] == "names":
            return " ".join(sorted(self.words)) if len(self.words) > 0 else "none"
        if marks[0] == "drop":
            self.words.pop(marks[1])
            return "dropped"
        if marks[0] == "join":
            return self.keep_joined(marks[1], words[0] + words[1])
        try:
            return ANSWERS[marks[0]](words)
        except NoRoom:
            return TOO_GREAT

    def keep_joined(self, name, word):
        try:
            check_word(word)
        except NoWord:
            return TOO_GREAT
        self.words[name] = word
        return KEPT
