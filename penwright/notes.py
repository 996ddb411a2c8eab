"""Notes: words written as texts, and read from them."""

from penwright.errors import BadNote, NoWord
from penwright.words import MOST_DEEP, MOST_FIGURES, PLAIN_KINDS, check_word

FIGURES = "0123456789"


def shown(word):
    check_word(word)
    return " ".join(marks_of(word))


def marks_of(word):
    marks = []
    for deed in word:
        marks.extend([deed[0], str(deed[1])])
        if deed[0] == "times":
            marks.extend(["["] + marks_of(deed[2]) + ["]"])
    return marks


def read(text):
    marks = marks_in(text)
    word = take_word(marks, 0)
    if len(marks) > 0:
        raise BadNote("a bracket is closed that is not there")
    try:
        check_word(word)
    except NoWord:
        raise BadNote("the text writes no word") from None
    return word


# The marks stand last first, so that the next one can be taken off the end.
def marks_in(text):
    if text == "":
        return []
    return list(reversed(text.split(" ")))


def take_word(marks, depth):
    # Ahead of check_word, so that many brackets don't make a deep recursion.
    if depth > MOST_DEEP:
        raise BadNote("times stand too deep within one another")
    deeds = []
    while len(marks) > 0 and marks[-1] != "]":
        deeds.append(take_deed(marks, depth))
    return tuple(deeds)


def take_deed(marks, depth):
    kind = take_mark(marks)
    if kind in PLAIN_KINDS:
        return (kind, number_of(take_mark(marks)))
    if kind != "times":
        raise BadNote("there is no such deed")
    number = number_of(take_mark(marks))
    take_bracket(marks, "[")
    word = take_word(marks, depth + 1)
    take_bracket(marks, "]")
    return (kind, number, word)


def take_mark(marks):
    if len(marks) == 0:
        raise BadNote("the text ends too early")
    return marks.pop()


def take_bracket(marks, bracket):
    if take_mark(marks) != bracket:
        raise BadNote("a bracket is missing")


def number_of(mark):
    figures = mark
    if mark.startswith("-"):
        figures = mark[1:]
    if not are_figures(figures) or has_needless(mark, figures):
        raise BadNote("there is no such number")
    return int(mark)


def are_figures(text):
    if len(text) == 0 or len(text) > MOST_FIGURES:
        return False
    return all([sign in FIGURES for sign in text])


def has_needless(mark, figures):
    return mark == "-0" or (len(figures) > 1 and figures.startswith("0"))
