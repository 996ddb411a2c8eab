"""Words, pictures and things that are none, and slow ways to do a word, for the tests."""

import random

GREATEST = 10**20 - 1


def nested(depth, inside):
    """`inside` within so many times."""
    word = inside
    for _ in range(depth):
        word = (("times", 2, word),)
    return word


WORDS = [
    (),
    (("go", 0),),
    (("go", GREATEST),),
    (("jump", 0),),
    (("jump", GREATEST),),
    (("jump", -GREATEST),),
    (("turn", 0),),
    (("turn", GREATEST),),
    (("turn", -GREATEST),),
    (("times", 0, ()),),
    (("times", GREATEST, ()),),
    (("times", 3, (("go", 2), ("turn", -1))),),
    (("go", 1),) * 30,
    (("times", 1, (("go", 1),) * 29),),
    (("times", 0, (("go", 1),) * 14), ("times", 2, (("turn", 1),) * 14)),
    nested(4, ()),
    nested(4, (("go", 1),)),
    nested(4, (("go", 1),) * 26),
    nested(4, ()) + nested(4, (("jump", -1),)),
    (("go", 3), ("turn", 1), ("times", 4, (("go", 2), ("turn", -1)))),
]

PLAINLY_NO_WORDS = [
    (("go", -1),),
    (("go", -GREATEST),),
    (("go", GREATEST + 1),),
    (("jump", GREATEST + 1),),
    (("jump", -GREATEST - 1),),
    (("turn", GREATEST + 1),),
    (("turn", -GREATEST - 1),),
    (("turn", 10**30),),
    (("times", -1, ()),),
    (("times", -1, (("go", 1),)),),
    (("times", GREATEST + 1, ()),),
    (("go", 1),) * 31,
    (("turn", 0),) * 100,
    (("times", 1, (("go", 1),) * 30),),
    (("times", 0, (("go", 1),) * 30),),
    (("times", 0, (("go", 1),) * 14), ("times", 2, (("turn", 1),) * 15)),
    nested(4, (("go", 1),) * 27),
    nested(5, ()),
    nested(5, (("go", 1),)),
    nested(9, (("go", 1),)),
    (("go", 1),) + nested(5, ()),
    (("stay", 1),),
    (("", 1),),
    (("Go", 1),),
    (("go ", 1),),
    (("draw", 1, ()),),
    (("times ", 1, ()),),
    (("go",),),
    (("jump",),),
    (("turn",),),
    (("times",),),
    (("times", 2),),
    (("times", ()),),
    (("go", 1, 2),),
    (("go", 1, ()),),
    (("jump", 1, 2),),
    (("jump", 1, (("go", 1),)),),
    (("turn", 1, 2),),
    (("turn", 1, ()),),
    (("times", 1, (), ()),),
    (("times", 1, (), 1),),
    (("times", 1, 1, ()),),
    ((),),
    (("go", 1), ()),
    ((), ("go", 1)),
    (("go", ()),),
    (("jump", (("go", 1),)),),
    (("turn", ()),),
    (("times", (), ()),),
    (("times", 2, 3),),
    (("times", (), 2),),
]


def within(word):
    """What is no word, at other places where it spoils the whole."""
    return [
        word,
        (("go", 1),) + word,
        word + (("turn", 1),),
        (("times", 2, word),),
        (("times", 0, word),),
        (("times", 1, (("times", 0, (("jump", 1),) + word),)),),
    ]


NO_WORDS = [spoilt for word in PLAINLY_NO_WORDS for spoilt in within(word)]


def plain_deeds(word):
    """The deeds go, jump and turn that a word goes through, one by one."""
    done = []
    for deed in word:
        if deed[0] == "times":
            done.extend(plain_deeds(deed[2]) * deed[1])
        else:
            done.append(deed)
    return done


def slowly_carried(pen, word):
    """The pen behind a word, led point by point and quarter by quarter."""
    x, y, heading = pen
    for kind, number in plain_deeds(word):
        for _ in range(abs(number)):
            sign = 1 if number > 0 else -1
            if kind == "turn":
                heading = {0: 1, 1: 2, 2: 3, 3: 0}[heading] if sign > 0 else {0: 3, 1: 0, 2: 1, 3: 2}[heading]
            elif heading == 0:
                x += sign
            elif heading == 1:
                y += sign
            elif heading == 2:
                x -= sign
            else:
                y -= sign
    return (x, y, heading)


def some_word(chance, most_deeds, depth):
    """A word of small numbers, of at most so many deeds altogether."""
    deeds = []
    left = chance.randint(0, most_deeds)
    while left > 0:
        left -= 1
        kind = chance.choice(["go", "jump", "turn", "times"])
        if kind == "times" and depth > 0:
            inside = some_word(chance, left, depth - 1)
            left -= count(inside)
            deeds.append((kind, chance.randint(0, 5), inside))
        elif kind == "go":
            deeds.append((kind, chance.randint(0, 4)))
        else:
            deeds.append(("jump" if kind == "jump" else "turn", chance.randint(-6, 6)))
    return tuple(deeds)


def count(word):
    return sum(1 + (count(deed[2]) if deed[0] == "times" else 0) for deed in word)


def some_words(number):
    chance = random.Random(10)
    return [some_word(chance, 8, 4) for _ in range(number)]


STEPS = [(1, 0), (0, 1), (-1, 0), (0, -1)]


def slowly_drawn(word, pen=(0, 0, 0)):
    """The strokes that a word draws from a pen on, as often as it draws them, one by one."""
    x, y, heading = pen
    strokes = []
    for kind, number in plain_deeds(word):
        step_x, step_y = STEPS[heading]
        if kind == "turn":
            heading = (heading + number) % 4
        elif kind == "jump":
            x, y = x + number * step_x, y + number * step_y
        else:
            for _ in range(number):
                strokes.append((min(x, x + step_x), min(y, y + step_y), 0 if step_x else 1))
                x, y = x + step_x, y + step_y
    return strokes


def two_ends(stroke):
    x, y, way = stroke
    return [(x, y), (x, y + 1) if way else (x + 1, y)]


def is_picture(told):
    """Whether something told is a picture, of the kinds that it must have."""
    return (
        type(told) is tuple
        and all(type(stroke) is tuple and [type(number) for number in stroke] == [int] * 3 for stroke in told)
        and all(stroke[2] in (0, 1) for stroke in told)
        and list(told) == sorted(set(told))
    )


SQUARE = ((0, 0, 0), (0, 0, 1), (0, 1, 0), (1, 0, 1))

NO_PICTURES = [
    # two strokes exchanged
    ((0, 0, 1), (0, 0, 0)),
    ((0, 1, 0), (0, 0, 1)),
    ((1, 0, 0), (0, 5, 1)),
    ((0, 0, 0), (0, 1, 0), (0, 0, 1), (1, 0, 1)),
    ((0, 0, 0), (0, 0, 1), (1, 0, 1), (0, 1, 0)),
    ((10**30, 0, 0), (-(10**30), 0, 0)),
    # one twice
    ((0, 0, 0), (0, 0, 0)),
    ((0, 0, 0), (0, 0, 1), (0, 0, 1), (0, 1, 0)),
    ((0, 0, 0), (0, 0, 1), (0, 0, 0)),
    # no such way
    ((0, 0, 2),),
    ((0, 0, -1),),
    ((0, 0, 10**30),),
    ((0, 0, 0), (0, 0, 2)),
    ((0, 0, -1), (0, 0, 0)),
    ((0, 0, 0), (1, 0, 3), (2, 0, 0)),
    # strokes of two numbers, four, one and none
    ((0, 0),),
    ((0, 0, 0, 0),),
    ((0, 0, 0, 1),),
    ((0,),),
    ((),),
    ((), (0, 0, 0)),
    ((0, 0, 0), (1, 0)),
    ((0, 0), (0, 0, 0)),
    ((0, 0, 0), (0, 0, 0, 0)),
    ((0, 0, 0), (0, 0, 1), (5,)),
    ((0, 0, 0), ()),
]


def some_picture(chance, most, width):
    strokes = {(chance.randint(0, width), chance.randint(0, width), chance.randint(0, 1)) for _ in range(most)}
    return tuple(sorted(strokes))


def some_pictures(number):
    chance = random.Random(20)
    return [some_picture(chance, chance.randint(0, 25), chance.randint(0, 5)) for _ in range(number)]


def sketched(*lines, x=0, y=0):
    """The picture that lines of signs sketch, the lower left point of them at (x, y); blanks are as good as dots."""
    top = y + (len(lines) - 1) // 2
    strokes = []
    for row, line in enumerate(lines):
        for column, sign in enumerate(line):
            if sign == "-":
                strokes.append((x + (column - 1) // 2, top - row // 2, 0))
            if sign == "|":
                strokes.append((x + column // 2, top - (row + 1) // 2, 1))
    return tuple(sorted(strokes))


def outline(cells):
    """The strokes that have one of the cells on just one side."""
    beside = {}
    for x, y in set(cells):
        for stroke in [(x, y, 0), (x, y, 1), (x, y + 1, 0), (x + 1, y, 1)]:
            beside[stroke] = beside.get(stroke, 0) + 1
    return tuple(sorted(stroke for stroke, often in beside.items() if often == 1))


def block(width, height, x=0, y=0):
    """The cells of a rectangle."""
    return [(x + column, y + row) for column in range(width) for row in range(height)]


def slow_pieces(picture):
    """The pieces of a picture, each as a list of strokes."""
    pieces = []
    for stroke in picture:
        near = [piece for piece in pieces if any(set(two_ends(stroke)) & set(two_ends(other)) for other in piece)]
        pieces = [piece for piece in pieces if piece not in near]
        pieces.append([stroke] + [other for piece in near for other in piece])
    return pieces


def changeable(told):
    """All lists and dicts in what is told."""
    found = []
    if isinstance(told, (list, tuple)):
        parts = list(told)
    elif isinstance(told, dict):
        parts = list(told.values())
    else:
        return []
    if not isinstance(told, tuple):
        found.append(told)
    for part in parts:
        found.extend(changeable(part))
    return found


def no_two_are_one(told):
    found = changeable(told)
    return len(found) == len({id(part) for part in found})
