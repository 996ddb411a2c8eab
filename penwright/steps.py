"""Steps: they lead a word to others that draw the same and leave the pen alike."""

from penwright.errors import NoRoom, NoStep, NoWord
from penwright.words import KINDS_FROM_NOUGHT, check_word

# How many deeds a step takes away; close takes as many as it tells.
DEEDS_TAKEN = {"join": 2, "part": 1, "out": 1, "in": 0, "open": 1, "once": 3, "twice": 1}
KINDS_WITH_NEED = ("part", "in", "close")
# Each of these leaves a word with fewer deeds.
SHORTENING = ("out", "open", "join", "once")


def stepped(word, step):
    check_word(word)
    return word_behind(word, step)


def walked(word, steps):
    check_word(word)
    here = word
    for step in steps:
        here = word_behind(here, step)
    return here


def holds(one, other, steps):
    check_word(one)
    check_word(other)
    try:
        return walked(one, steps) == other
    except (NoStep, NoRoom):
        return False


def shortened(word):
    check_word(word)
    here = word
    steps = []
    step = shortening_step(here)
    while step is not None:
        steps.append(step)
        here = word_behind(here, step)
        step = shortening_step(here)
    return steps


def shortening_step(word):
    for place in places_in(word):
        for kind in SHORTENING:
            if can_be_done(word, (kind,) + place):
                return (kind,) + place
    return None


# All (way, place) at which a deed of the word stands.
def places_in(word):
    places = []
    for number in range(len(word)):
        places.append(((), number))
        if word[number][0] == "times":
            places.extend([((number,) + place[0], place[1]) for place in places_in(word[number][2])])
    return places


def can_be_done(word, step):
    try:
        word_behind(word, step)
    except (NoStep, NoRoom):
        return False
    return True


def word_behind(word, step):
    if len(step) != (4 if step[0] in KINDS_WITH_NEED else 3):
        raise NoStep("a step has its kind, a way, a place, and what the kind needs")
    there = changed_word(word, step[1], step)
    try:
        check_word(there)
    except NoWord:
        raise NoRoom("what comes is no word") from None
    return there


# The word with the step done in the word to which the rest of its way leads.
def changed_word(word, way, step):
    if len(way) == 0:
        return changed_deeds(word, step)
    deed = deeds_from(word, way[0], 1)[0]
    if deed[0] != "times":
        raise NoStep("there is no such way")
    inside = changed_word(deed[2], way[1:], step)
    return exchanged(word, way[0], 1, (("times", deed[1], inside),))


def deeds_from(word, place, number):
    if place < 0 or number < 0 or place + number > len(word):
        raise NoStep("there is no such place")
    return word[place : place + number]


def exchanged(word, place, number, deeds):
    return word[:place] + deeds + word[place + number :]


def join_deeds(deeds, need):
    first = deeds[0]
    second = deeds[1]
    # Behind its number a times has its word, any other deed nothing.
    if first[0] != second[0] or first[2:] != second[2:]:
        raise NoStep("the deeds are unlike")
    return ((first[0], first[1] + second[1]) + first[2:],)


def part_deed(deeds, number):
    deed = deeds[0]
    rest = deed[1] - number
    if deed[0] in KINDS_FROM_NOUGHT and (number < 0 or rest < 0):
        raise NoStep("the deed can't be parted so")
    return ((deed[0], number) + deed[2:], (deed[0], rest) + deed[2:])


def leave_out(deeds, need):
    if not is_idle(deeds[0]):
        raise NoStep("the deed isn't idle")
    return ()


def put_in(deeds, deed):
    if not is_idle(deed):
        raise NoStep("the deed isn't idle")
    return (deed,)


def is_idle(deed):
    if len(deed) == 3 and deed[0] == "times":
        return deed[1] == 0 or deed[2] == ()
    if len(deed) != 2:
        return False
    if deed[0] == "turn":
        return deed[1] % 4 == 0
    return deed[0] in ("go", "jump") and deed[1] == 0


def open_times(deeds, need):
    if deeds[0][0] != "times" or deeds[0][1] != 1:
        raise NoStep("the deed isn't a times of once")
    return deeds[0][2]


def close_deeds(deeds, number):
    return (("times", 1, deeds),)


def draw_once(deeds, need):
    if deeds != draw_twice(deeds[:1], need):
        raise NoStep("the deeds don't draw the same twice")
    return deeds[:1]


def draw_twice(deeds, need):
    deed = deeds[0]
    if deed[0] != "go":
        raise NoStep("the deed is no go")
    return (deed, ("jump", -deed[1]), deed)


# By kind: what comes for the deeds that are taken away.
CHANGES = {
    "join": join_deeds,
    "part": part_deed,
    "out": leave_out,
    "in": put_in,
    "open": open_times,
    "close": close_deeds,
    "once": draw_once,
    "twice": draw_twice,
}


def changed_deeds(word, step):
    if step[0] not in CHANGES:
        raise NoStep("there is no such kind of step")
    need = step[3] if step[0] in KINDS_WITH_NEED else None
    number = need if step[0] == "close" else DEEDS_TAKEN[step[0]]
    deeds = deeds_from(word, step[2], number)
    return exchanged(word, step[2], number, CHANGES[step[0]](deeds, need))
