import copy
import random
import unittest

from penwright.errors import NoRoom, NoStep, NoWord
from penwright.pictures import picture_of
from penwright.steps import holds, shortened, stepped, walked
from penwright.words import deeds_in, is_small, pen_after
from tests.helper import GREATEST, NO_WORDS, WORDS, count, nested, no_two_are_one, some_words

GO = ("go", 2)
JUMP = ("jump", -3)
TURN = ("turn", 1)
TIMES = ("times", 3, (("go", 1), ("turn", 1)))
IDLE = [
    ("go", 0),
    ("jump", 0),
    ("turn", 0),
    ("turn", 4),
    ("turn", -4),
    ("turn", 8),
    ("turn", 10**20 - 4),
    ("turn", -(10**20) + 4),
    ("times", 0, ()),
    ("times", 0, (("go", 3),)),
    ("times", 5, ()),
    ("times", 1, ()),
    ("times", GREATEST, ()),
    ("times", 0, (("times", 2, (("go", 1), ("jump", 1))),)),
]
NOT_IDLE = [
    ("go", 1),
    ("go", 4),
    ("jump", 1),
    ("jump", -1),
    ("jump", 4),
    ("turn", 1),
    ("turn", 2),
    ("turn", 3),
    ("turn", -1),
    ("turn", -2),
    ("turn", 6),
    ("times", 1, (("go", 0),)),
    ("times", 2, (("turn", 4),)),
    ("times", 4, (("turn", 1),)),
    ("times", 1, (("times", 0, ()),)),
]
KINDS = ["join", "part", "out", "in", "open", "close", "once", "twice"]


class Refused(Exception):
    pass


def slow_stepped(word, step):
    """What a step leads to, worked out on lists: a word, or NoStep or NoRoom."""
    try:
        there = tuple(slow_inside(list(word), step))
    except Refused:
        return NoStep
    return there if is_word(there, 0) and count(there) <= 30 else NoRoom


def slow_inside(deeds, step):
    kind, way, place = step[:3]
    if way:
        if not 0 <= way[0] < len(deeds) or deeds[way[0]][0] != "times":
            raise Refused
        number, word = deeds[way[0]][1:]
        inside = slow_inside(list(word), (kind, way[1:], place) + step[3:])
        deeds[way[0]] = ("times", number, tuple(inside))
        return deeds
    if place < 0:
        raise Refused
    try:
        slow_change(deeds, kind, place, step[3] if len(step) > 3 else None)
    except IndexError:
        raise Refused from None
    return deeds


def slow_change(deeds, kind, place, need):
    if kind == "in":
        refuse_unless(slow_idle(need) and place <= len(deeds))
        deeds.insert(place, need)
    elif kind == "close":
        refuse_unless(need >= 0 and place + need <= len(deeds))
        gone = [deeds.pop(place) for _ in range(need)]
        deeds.insert(place, ("times", 1, tuple(gone)))
    elif kind == "join":
        second, first = deeds.pop(place + 1), deeds.pop(place)
        refuse_unless(first[0] == second[0] and (first[0] != "times" or first[2] == second[2]))
        deeds.insert(place, (first[0], first[1] + second[1], *first[2:]))
    elif kind == "part":
        deed = deeds.pop(place)
        refuse_unless(deed[0] in ("jump", "turn") or need in range(deed[1] + 1))
        deeds.insert(place, (deed[0], deed[1] - need, *deed[2:]))
        deeds.insert(place, (deed[0], need, *deed[2:]))
    elif kind == "out":
        refuse_unless(slow_idle(deeds.pop(place)))
    elif kind == "open":
        deed = deeds.pop(place)
        refuse_unless(deed[:2] == ("times", 1))
        deeds[place:place] = list(deed[2])
    elif kind == "once":
        third, second, first = deeds.pop(place + 2), deeds.pop(place + 1), deeds.pop(place)
        refuse_unless((first[0], second[0], third[0]) == ("go", "jump", "go"))
        refuse_unless(first[1] == third[1] and first[1] + second[1] == 0)
        deeds.insert(place, first)
    else:
        deed = deeds.pop(place)
        refuse_unless(deed[0] == "go")
        deeds[place:place] = [deed, ("jump", -deed[1]), deed]


def refuse_unless(so):
    if not so:
        raise Refused


def slow_idle(deed):
    if deed[0] == "times":
        return deed[1] == 0 or len(deed[2]) == 0
    return deed[1] == 0 if deed[0] in ("go", "jump") else deed[1] % 4 == 0


def is_word(word, depth):
    return depth <= 4 and all(
        len(str(abs(deed[1]))) <= 20
        and (deed[1] >= 0 or deed[0] in ("jump", "turn"))
        and (deed[0] != "times" or is_word(deed[2], depth + 1))
        for deed in word
    )


def taken_back(word, step):
    """The step that leads back to the word from where the step leads it."""
    kind, way, place = step[:3]
    inside = word
    for number in way:
        inside = inside[number][2]
    if kind == "join":
        return ("part", way, place, inside[place][1])
    if kind == "part":
        return ("join", way, place)
    if kind == "out":
        return ("in", way, place, inside[place])
    if kind == "in":
        return ("out", way, place)
    if kind == "open":
        return ("close", way, place, len(inside[place][2]))
    if kind == "close":
        return ("open", way, place)
    return ("twice" if kind == "once" else "once", way, place)


def ways_in(word):
    ways = [()]
    for place, deed in enumerate(word):
        if deed[0] == "times":
            ways.extend((place,) + way for way in ways_in(deed[2]))
    return ways


def steps_at(way, place):
    """Steps of every kind at a place, whether they can be done or not."""
    steps = [(kind, way, place) for kind in ("join", "out", "open", "once", "twice")]
    steps += [("part", way, place, number) for number in (-2, -1, 0, 1, 2, 4, 7)]
    steps += [("in", way, place, deed) for deed in IDLE[:4] + NOT_IDLE[:4] + IDLE[-2:] + NOT_IDLE[-2:]]
    steps += [("close", way, place, number) for number in range(-1, 5)]
    return steps


def all_steps(word):
    steps = []
    for way in ways_in(word):
        inside = word
        for number in way:
            inside = inside[number][2]
        for place in range(-2, len(inside) + 3):
            steps.extend(steps_at(way, place))
        steps.extend(("in", way + (place,), 0, ("go", 0)) for place in range(-1, len(inside) + 2))
    return steps


class Asking(unittest.TestCase):
    def assert_all(self, cases):
        for word, step, asked in cases:
            with self.subTest(word=word, step=step):
                self.assert_told(word, step, asked)

    def assert_told(self, word, step, asked):
        if asked in (NoStep, NoRoom):
            with self.assertRaises(asked):
                stepped(word, step)
            with self.assertRaises(asked):
                walked(word, [step])
            self.assertIs(holds(word, word, [step]), False)
            return
        told = stepped(word, step)
        self.assertIs(type(told), tuple)
        self.assertEqual(told, asked)
        self.assertEqual(walked(word, [step]), asked)
        self.assertIs(holds(word, asked, [step]), True)

    def assert_within_times_too(self, cases):
        """The same in the word itself, in a times, and in a times within a times."""
        self.assert_all(cases)
        for word, step, asked in cases:
            kind, way, place = step[:3]
            refused = asked in (NoStep, NoRoom)
            for number in (0, 1, 5):
                there = asked if refused else (("times", number, asked),)
                self.assert_told((("times", number, word),), (kind, (0,) + way, place) + step[3:], there)
                outer = (GO, ("times", 2, (TURN, JUMP, ("times", number, word), GO)), JUMP)
                inner = (GO, ("times", 2, (TURN, JUMP, ("times", number, asked), GO)), JUMP)
                self.assert_told(outer, (kind, (1, 2) + way, place) + step[3:], asked if refused else inner)


class Join(Asking):
    """Points 70 and 71."""

    def test_deeds_of_one_kind(self):
        self.assert_within_times_too(
            [
                ((("go", 2), ("go", 3)), ("join", (), 0), (("go", 5),)),
                ((("go", 0), ("go", 0)), ("join", (), 0), (("go", 0),)),
                ((("jump", 2), ("jump", -5)), ("join", (), 0), (("jump", -3),)),
                ((("turn", -1), ("turn", 1)), ("join", (), 0), (("turn", 0),)),
                ((("turn", 3), ("turn", 3)), ("join", (), 0), (("turn", 6),)),
                ((TURN, ("go", 1), ("go", 1), TURN), ("join", (), 1), (TURN, ("go", 2), TURN)),
                ((TURN, ("go", 1), ("go", 1)), ("join", (), 1), (TURN, ("go", 2))),
                ((("times", 2, (GO,)), ("times", 3, (GO,))), ("join", (), 0), (("times", 5, (GO,)),)),
                ((("times", 0, ()), ("times", 3, ())), ("join", (), 0), (("times", 3, ()),)),
            ]
        )

    def test_unlike_deeds(self):
        deeds = [("go", 1), ("jump", 1), ("turn", 1), ("times", 1, ()), ("times", 1, (("go", 1),))]
        for first in deeds:
            for second in deeds:
                if first != second:
                    self.assert_within_times_too([((first, second), ("join", (), 0), NoStep)])

    def test_times_with_unlike_words(self):
        words = [(), (GO,), (GO, GO), (("go", 4),), (TURN,), (("times", 1, (GO,)),), (GO, TURN), (TURN, GO)]
        for first in words:
            for second in words:
                word = (("times", 2, first), ("times", 2, second))
                asked = (("times", 4, first),) if first == second else NoStep
                self.assert_told(word, ("join", (), 0), asked)

    def test_places(self):
        word = (("go", 1), ("go", 2), ("go", 4))
        self.assert_within_times_too(
            [
                (word, ("join", (), 0), (("go", 3), ("go", 4))),
                (word, ("join", (), 1), (("go", 1), ("go", 6))),
                (word, ("join", (), 2), NoStep),
                (word, ("join", (), 3), NoStep),
                (word, ("join", (), -1), NoStep),
                (word, ("join", (), -2), NoStep),
                (word, ("join", (), -3), NoStep),
                (word, ("join", (), 10**30), NoStep),
                ((), ("join", (), 0), NoStep),
                ((("go", 1),), ("join", (), 0), NoStep),
                ((("go", 1),), ("join", (), -1), NoStep),
            ]
        )

    def test_numbers_of_twenty_figures(self):
        half = GREATEST // 2
        self.assert_within_times_too(
            [
                ((("go", GREATEST), ("go", 0)), ("join", (), 0), (("go", GREATEST),)),
                ((("go", half), ("go", half + 1)), ("join", (), 0), (("go", GREATEST),)),
                ((("go", GREATEST), ("go", 1)), ("join", (), 0), NoRoom),
                ((("go", half + 1), ("go", half + 1)), ("join", (), 0), NoRoom),
                ((("jump", GREATEST), ("jump", 1)), ("join", (), 0), NoRoom),
                ((("jump", -GREATEST), ("jump", -1)), ("join", (), 0), NoRoom),
                ((("jump", -GREATEST), ("jump", GREATEST)), ("join", (), 0), (("jump", 0),)),
                ((("turn", GREATEST), ("turn", GREATEST)), ("join", (), 0), NoRoom),
                ((("times", GREATEST, (GO,)), ("times", 1, (GO,))), ("join", (), 0), NoRoom),
                ((("times", GREATEST, ()), ("times", 0, ())), ("join", (), 0), (("times", GREATEST, ()),)),
            ]
        )


class Part(Asking):
    """Points 70 and 71."""

    def test_a_go_or_times(self):
        inside = (("go", 1), ("turn", 1))
        for number in range(6):
            self.assert_within_times_too(
                [
                    ((("go", 5),), ("part", (), 0, number), (("go", number), ("go", 5 - number))),
                    (
                        (("times", 5, inside),),
                        ("part", (), 0, number),
                        (("times", number, inside), ("times", 5 - number, inside)),
                    ),
                ]
            )
        for number in (-1, -5, 6, 7, 10**30, -(10**30)):
            self.assert_within_times_too(
                [
                    ((("go", 5),), ("part", (), 0, number), NoStep),
                    ((("times", 5, inside),), ("part", (), 0, number), NoStep),
                ]
            )

    def test_by_nought(self):
        self.assert_within_times_too(
            [
                ((("go", 0),), ("part", (), 0, 0), (("go", 0), ("go", 0))),
                ((("go", 0),), ("part", (), 0, 1), NoStep),
                ((("times", 0, ()),), ("part", (), 0, 0), (("times", 0, ()), ("times", 0, ()))),
                ((("times", 0, ()),), ("part", (), 0, -1), NoStep),
            ]
        )

    def test_a_jump_or_turn(self):
        for kind in ("jump", "turn"):
            for whole in (-5, 0, 5):
                for number in (-9, -5, -1, 0, 1, 5, 9):
                    asked = ((kind, number), (kind, whole - number))
                    self.assert_within_times_too([(((kind, whole),), ("part", (), 0, number), asked)])

    def test_places(self):
        word = (("go", 3), JUMP, ("go", 4))
        self.assert_within_times_too(
            [
                (word, ("part", (), 0, 1), (("go", 1), ("go", 2), JUMP, ("go", 4))),
                (word, ("part", (), 1, 1), (("go", 3), ("jump", 1), ("jump", -4), ("go", 4))),
                (word, ("part", (), 2, 1), (("go", 3), JUMP, ("go", 1), ("go", 3))),
                (word, ("part", (), 3, 1), NoStep),
                (word, ("part", (), -1, 1), NoStep),
                (word, ("part", (), -3, 1), NoStep),
                ((), ("part", (), 0, 0), NoStep),
                ((), ("part", (), -1, 0), NoStep),
            ]
        )

    def test_numbers_of_twenty_figures(self):
        self.assert_within_times_too(
            [
                ((("jump", 0),), ("part", (), 0, GREATEST), (("jump", GREATEST), ("jump", -GREATEST))),
                ((("jump", 1),), ("part", (), 0, GREATEST + 1), NoRoom),
                ((("jump", -1),), ("part", (), 0, GREATEST), NoRoom),
                ((("turn", GREATEST),), ("part", (), 0, -1), NoRoom),
                ((("turn", -GREATEST),), ("part", (), 0, -(10**30)), NoRoom),
                ((("go", GREATEST),), ("part", (), 0, GREATEST), (("go", GREATEST), ("go", 0))),
                ((("go", GREATEST),), ("part", (), 0, GREATEST + 1), NoStep),
                ((("times", GREATEST, ()),), ("part", (), 0, GREATEST + 1), NoStep),
            ]
        )

    def test_thirty_one_deeds(self):
        self.assert_all(
            [
                ((("go", 1),) * 29, ("part", (), 28, 0), (("go", 1),) * 28 + (("go", 0), ("go", 1))),
                ((("go", 1),) * 30, ("part", (), 0, 0), NoRoom),
                ((("go", 1),) * 30, ("part", (), 0, 2), NoStep),
                ((("go", 1),) * 30, ("part", (), 30, 0), NoStep),
                ((("times", 2, (("turn", 1),) * 14),), ("part", (), 0, 1), (("times", 1, (("turn", 1),) * 14),) * 2),
                ((("times", 2, (("turn", 1),) * 15),), ("part", (), 0, 1), NoRoom),
                ((("times", 2, (("turn", 1),) * 15),), ("part", (), 0, 3), NoStep),
                ((("times", 2, (("turn", 1),) * 29),), ("part", (0,), 0, 3), NoRoom),
            ]
        )


class OutAndIn(Asking):
    """Points 70 and 71."""

    def test_out(self):
        for deed in IDLE:
            self.assert_within_times_too(
                [
                    ((deed,), ("out", (), 0), ()),
                    ((deed, GO, TURN), ("out", (), 0), (GO, TURN)),
                    ((GO, deed, TURN), ("out", (), 1), (GO, TURN)),
                    ((GO, TURN, deed), ("out", (), 2), (GO, TURN)),
                ]
            )
        for deed in NOT_IDLE:
            self.assert_within_times_too(
                [((deed,), ("out", (), 0), NoStep), ((("go", 0), deed, ("go", 0)), ("out", (), 1), NoStep)]
            )

    def test_in(self):
        for deed in IDLE:
            self.assert_within_times_too(
                [
                    ((), ("in", (), 0, deed), (deed,)),
                    ((GO, TURN), ("in", (), 0, deed), (deed, GO, TURN)),
                    ((GO, TURN), ("in", (), 1, deed), (GO, deed, TURN)),
                    ((GO, TURN), ("in", (), 2, deed), (GO, TURN, deed)),
                    ((GO, TURN), ("in", (), 3, deed), NoStep),
                    ((GO, TURN), ("in", (), -1, deed), NoStep),
                    ((), ("in", (), 1, deed), NoStep),
                    ((), ("in", (), -1, deed), NoStep),
                ]
            )
        for deed in NOT_IDLE:
            for place in (-1, 0, 1, 2):
                self.assert_within_times_too([((GO,), ("in", (), place, deed), NoStep)])

    def test_places_of_out(self):
        word = (("go", 0), ("jump", 0), ("turn", 0))
        self.assert_within_times_too(
            [(word, ("out", (), place), NoStep) for place in (-4, -3, -1, 3, 4, 10**30)]
            + [((), ("out", (), 0), NoStep), ((), ("out", (), -1), NoStep)]
        )

    def test_what_is_too_great_for_a_word(self):
        self.assert_all(
            [
                ((), ("in", (), 0, ("turn", 10**20)), NoRoom),
                ((), ("in", (), 0, ("turn", -(10**20))), NoRoom),
                ((), ("in", (), 0, ("turn", 10**20 + 1)), NoStep),
                ((), ("in", (), 1, ("turn", 10**20)), NoStep),
                ((), ("in", (), 0, ("times", 10**20, ())), NoRoom),
                ((), ("in", (), 0, ("times", 0, (("go", 10**20),))), NoRoom),
                ((), ("in", (), 0, ("times", 0, (GO,) * 29)), (("times", 0, (GO,) * 29),)),
                ((), ("in", (), 0, ("times", 0, (GO,) * 30)), NoRoom),
                ((GO,), ("in", (), 0, ("times", 0, (GO,) * 29)), NoRoom),
                ((GO,) * 29, ("in", (), 29, ("go", 0)), (GO,) * 29 + (("go", 0),)),
                ((GO,) * 30, ("in", (), 30, ("go", 0)), NoRoom),
                ((GO,) * 30, ("in", (), 31, ("go", 0)), NoStep),
                ((GO,) * 30, ("in", (), 30, ("go", 1)), NoStep),
                ((), ("in", (), 0, ("times", 0, nested(3, ()))), (("times", 0, nested(3, ())),)),
                ((), ("in", (), 0, ("times", 0, nested(4, ()))), NoRoom),
                (nested(3, ()), ("in", (0, 0, 0), 0, ("times", 9, ())), nested(3, (("times", 9, ()),))),
                (nested(4, ()), ("in", (0, 0, 0, 0), 0, ("go", 0)), nested(4, (("go", 0),))),
                (nested(4, ()), ("in", (0, 0, 0, 0), 0, ("times", 9, ())), NoRoom),
                (nested(4, ()), ("in", (0, 0, 0, 0), 1, ("times", 9, ())), NoStep),
            ]
        )


class OpenAndClose(Asking):
    """Points 70 and 71."""

    def test_a_times_of_once(self):
        self.assert_within_times_too(
            [
                ((("times", 1, ()),), ("open", (), 0), ()),
                ((("times", 1, (GO, TURN)),), ("open", (), 0), (GO, TURN)),
                ((GO, ("times", 1, (TURN, JUMP)), TURN), ("open", (), 1), (GO, TURN, JUMP, TURN)),
                ((GO, ("times", 1, (TIMES, JUMP))), ("open", (), 1), (GO, TIMES, JUMP)),
                ((("times", 1, (("times", 1, (GO,)),)),), ("open", (), 0), (("times", 1, (GO,)),)),
                ((("times", 1, (("times", 1, (GO,)),)),), ("open", (0,), 0), (("times", 1, (GO,)),)),
            ]
        )

    def test_another_deed(self):
        deeds = [("times", number, word) for number in (0, 2, GREATEST) for word in ((), (GO,))]
        for deed in deeds + [("go", 1), ("jump", 1), ("turn", 1)]:
            self.assert_within_times_too([((deed,), ("open", (), 0), NoStep)])

    def test_places_of_open(self):
        word = (("times", 1, (GO,)), ("times", 1, (JUMP,)))
        self.assert_within_times_too(
            [
                (word, ("open", (), 0), (GO, ("times", 1, (JUMP,)))),
                (word, ("open", (), 1), (("times", 1, (GO,)), JUMP)),
                (word, ("open", (), 2), NoStep),
                (word, ("open", (), -1), NoStep),
                (word, ("open", (), -2), NoStep),
                ((), ("open", (), 0), NoStep),
            ]
        )

    def test_close(self):
        word = (GO, TURN, JUMP)
        cases = []
        for place in range(4):
            for number in range(4 - place):
                asked = word[:place] + (("times", 1, word[place : place + number]),) + word[place + number :]
                cases.append((word, ("close", (), place, number), asked))
            cases.append((word, ("close", (), place, 4 - place), NoStep))
            cases.append((word, ("close", (), place, 10**30), NoStep))
            cases.append((word, ("close", (), place, -1), NoStep))
            cases.append((word, ("close", (), place, -place), NoStep if place else (("times", 1, ()),) + word))
        self.assert_within_times_too(cases)
        self.assertEqual(stepped(word, ("close", (), 0, 3)), (("times", 1, word),))
        self.assertEqual(stepped(word, ("close", (), 3, 0)), word + (("times", 1, ()),))

    def test_places_of_close(self):
        word = (GO, TURN, JUMP)
        places = [(4, 0), (4, 1), (4, -1), (5, -2), (-1, 0), (-1, 1), (-1, 2), (-1, 4), (-3, 3), (-3, 1), (10**30, 0)]
        self.assert_within_times_too([(word, ("close", (), place, number), NoStep) for place, number in places])
        self.assert_within_times_too(
            [
                ((), ("close", (), 0, 0), (("times", 1, ()),)),
                ((), ("close", (), 0, 1), NoStep),
                ((), ("close", (), 1, 0), NoStep),
                ((), ("close", (), -1, 0), NoStep),
                ((), ("close", (), -1, 1), NoStep),
            ]
        )

    def test_what_is_too_great_for_a_word(self):
        self.assert_all(
            [
                ((GO,) * 29, ("close", (), 0, 29), (("times", 1, (GO,) * 29),)),
                ((GO,) * 30, ("close", (), 0, 30), NoRoom),
                ((GO,) * 30, ("close", (), 30, 0), NoRoom),
                ((GO,) * 30, ("close", (), 0, 31), NoStep),
                ((GO,) * 30, ("close", (), 31, 0), NoStep),
                (nested(3, (GO,)), ("close", (), 0, 1), (("times", 1, nested(3, (GO,))),)),
                (nested(3, (GO,)), ("close", (0, 0, 0), 0, 1), nested(3, (("times", 1, (GO,)),))),
                (nested(4, (GO,)), ("close", (), 0, 1), NoRoom),
                (nested(4, (GO,)), ("close", (), 0, 0), (("times", 1, ()),) + nested(4, (GO,))),
                (nested(4, (GO,)), ("close", (0, 0), 0, 1), NoRoom),
                (nested(4, (GO,)), ("close", (0, 0, 0, 0), 0, 1), NoRoom),
                (nested(4, (GO,)), ("close", (0, 0, 0, 0), 0, 0), NoRoom),
                (nested(4, (GO,)), ("close", (0, 0, 0, 0), 0, 2), NoStep),
            ]
        )


class OnceAndTwice(Asking):
    """Points 70 and 71."""

    def test_once(self):
        cases = []
        for number in (0, 1, 3, GREATEST):
            thrice = (("go", number), ("jump", -number), ("go", number))
            cases.append((thrice, ("once", (), 0), (("go", number),)))
            cases.append(((TURN,) + thrice + (TURN,), ("once", (), 1), (TURN, ("go", number), TURN)))
            cases.append(((TURN,) + thrice, ("once", (), 1), (TURN, ("go", number))))
        self.assert_within_times_too(cases)

    def test_deeds_that_are_not_so(self):
        words = [
            (("go", 1), ("jump", -2), ("go", 1)),
            (("go", 2), ("jump", -1), ("go", 1)),
            (("go", 1), ("jump", -1), ("go", 2)),
            (("go", 2), ("jump", -2), ("go", 1)),
            (("go", 1), ("jump", 1), ("go", 1)),
            (("go", 0), ("jump", 0), ("go", 1)),
            (("go", 1), ("jump", 0), ("go", 1)),
            (("go", 0), ("turn", 0), ("go", 0)),
            (("go", 0), ("go", 0), ("go", 0)),
            (("jump", 0), ("jump", 0), ("jump", 0)),
            (("jump", 0), ("jump", 0), ("go", 0)),
            (("go", 0), ("jump", 0), ("jump", 0)),
            (("jump", 1), ("go", 1), ("jump", 1)),
            (("times", 1, ()), ("jump", -1), ("times", 1, ())),
            (("turn", 1), ("jump", -1), ("turn", 1)),
            (("go", 1), ("jump", -1)),
            (("go", 1),),
            (),
        ]
        self.assert_within_times_too([(word, ("once", (), 0), NoStep) for word in words])

    def test_places_of_once(self):
        word = (GO, ("jump", -2), GO, ("jump", -2), GO)
        rest = (GO, ("jump", -2), GO)
        self.assert_within_times_too(
            [(word, ("once", (), 0), rest), (word, ("once", (), 2), rest)]
            + [(word, ("once", (), place), NoStep) for place in (-5, -3, -1, 1, 3, 4, 5, 6)]
        )

    def test_twice(self):
        cases = []
        for number in (0, 1, 3, GREATEST):
            thrice = (("go", number), ("jump", -number), ("go", number))
            cases.append(((("go", number),), ("twice", (), 0), thrice))
            cases.append(((TURN, ("go", number), JUMP), ("twice", (), 1), (TURN,) + thrice + (JUMP,)))
            cases.append(((TURN, ("go", number)), ("twice", (), 1), (TURN,) + thrice))
        self.assert_within_times_too(cases)

    def test_twice_of_other_deeds_and_places(self):
        deeds = [("jump", 1), ("jump", 0), ("turn", 1), ("times", 1, (GO,)), ("times", 0, ())]
        self.assert_within_times_too([((deed,), ("twice", (), 0), NoStep) for deed in deeds])
        self.assert_within_times_too([((GO, GO), ("twice", (), place), NoStep) for place in (-2, -1, 2, 3)])
        self.assert_all([((), ("twice", (), 0), NoStep)])

    def test_what_is_too_great_for_a_word(self):
        self.assert_all(
            [
                ((GO,) * 28, ("twice", (), 27), (GO,) * 28 + (("jump", -2), GO)),
                ((GO,) * 29, ("twice", (), 0), NoRoom),
                ((GO,) * 29, ("twice", (), 29), NoStep),
                ((GO,) * 29 + (TURN,), ("twice", (), 29), NoStep),
                ((("times", 0, (GO,) * 28),), ("twice", (0,), 5), NoRoom),
            ]
        )


class Ways(Asking):
    """Points 70 and 72."""

    INSIDE = (TURN, ("times", 3, (GO, GO)))
    REST = (TURN, ("times", 0, (("go", 0), GO)))
    WORD = (GO, ("times", 2, INSIDE)) + REST

    def test_ways_that_are_there(self):
        self.assert_all(
            [
                (self.WORD, ("join", (1, 1), 0), (GO, ("times", 2, (TURN, ("times", 3, (("go", 4),))))) + self.REST),
                (self.WORD, ("out", (3,), 0), (GO, ("times", 2, self.INSIDE), TURN, ("times", 0, (GO,)))),
                (self.WORD, ("in", (1,), 2, ("go", 0)), (GO, ("times", 2, self.INSIDE + (("go", 0),))) + self.REST),
            ]
        )

    def test_ways_that_are_not_there(self):
        ways = [
            (0,), (2,), (4,), (-1,), (-3,), (-4,), (10**30,), (1, 0), (1, 2), (1, -1), (1, 1, 0), (1, 1, 1), (1, 1, 2),
            (1, 1, -1), (3, 0), (3, 1), (0, 0), (0, 1, 1), (-3, 1), (1,) * 99,
        ]
        for way in ways:
            for step in [("in", way, 0, ("go", 0)), ("close", way, 0, 0), ("join", way, 0), ("twice", way, 0)]:
                self.assert_told(self.WORD, step, NoStep)

    def test_the_way_ends_where_the_step_is_done(self):
        # Each of these could be done elsewhere in the word.
        for step in [("join", (), 0), ("join", (1,), 0), ("out", (), 0), ("out", (1,), 0), ("out", (1, 1), 0)]:
            self.assert_told(self.WORD, step, NoStep)

    def test_four_deep(self):
        word = nested(4, (GO, GO))
        self.assert_told(word, ("join", (0, 0, 0, 0), 0), nested(4, (("go", 4),)))
        self.assert_told(word, ("join", (0, 0, 0, 0, 0), 0), NoStep)

    def test_no_such_step(self):
        for step in [("turn", (), 0), ("fold", (), 0), ("", (), 0), ("Join", (), 0)]:
            self.assert_told((GO, GO), step, NoStep)

    def test_parts_too_few_or_too_many(self):
        word = (("go", 0), ("go", 0), ("times", 1, ()))
        for step in [
            ("part", (), 0),
            ("in", (), 0),
            ("close", (), 0),
            ("part", (), 0, 0, 0),
            ("join", (), 0, 0),
            ("out", (), 0, 0),
            ("open", (), 2, 0),
            ("twice", (), 0, 0),
        ]:
            self.assert_told(word, step, NoStep)

    def test_in_of_what_is_no_deed(self):
        for deed in [(), ("go",), ("go", 0, ()), ("turn", 0, 0), ("times", 0), ("times", 0, (), ()), ("stay", 0)]:
            self.assert_told((GO,), ("in", (), 0, deed), NoStep)


class EverySmallStep(Asking):
    """Points 70 to 73, held against a slow way to do a step."""

    def test_many_words(self):
        words = WORDS + [word for word in some_words(200) if count(word) <= 5][:60]
        words += [(GO,) * 30, (GO, ("jump", -2), GO) * 10, (("times", 1, (TURN,) * 14),) * 2, nested(4, (GO, GO))]
        words += [(GO, ("jump", -2)) * 15, (("go", 0), ("jump", 0)) * 14]
        words += [(("times", 1, word), GO, ("times", 1, ())) for word in words if 0 < count(word) < 4]
        seen = {}
        for word in words:
            for step in all_steps(word):
                asked = slow_stepped(word, step)
                self.assert_same(word, step, asked)
                if isinstance(asked, tuple):
                    self.assert_alike(word, step, asked)
                    seen[step[0]] = seen.get(step[0], 0) + 1
                else:
                    seen[asked] = seen.get(asked, 0) + 1
        for kind in KINDS + [NoStep, NoRoom]:
            self.assertGreater(seen[kind], 20, kind)

    def assert_same(self, word, step, asked):
        try:
            told = stepped(word, step)
        except (NoStep, NoRoom) as refusal:
            told = type(refusal)
        self.assertEqual(told, asked, (word, step))

    def assert_alike(self, word, step, there):
        self.assertEqual(pen_after(word), pen_after(there), (word, step))
        if is_small(word) and is_small(there):
            self.assertEqual(picture_of(word), picture_of(there), (word, step))
        back = taken_back(word, step)
        self.assertEqual(stepped(there, back), word, (word, step, back))


class Refusals(Asking):
    """Points 10 and 72."""

    def test_what_is_no_word(self):
        steps = [("join", (), 0), ("in", (), 0, ("go", 0)), ("close", (), 0, 0), ("out", (), 99)]
        for word in NO_WORDS:
            with self.subTest(word=word):
                for step in steps:
                    with self.assertRaises(NoWord):
                        stepped(word, step)
                    with self.assertRaises(NoWord):
                        walked(word, [step])
                for steps_of_none in ([], [("out", (), 99)]):
                    with self.assertRaises(NoWord):
                        walked(word, steps_of_none)
                    with self.assertRaises(NoWord):
                        holds(word, word, steps_of_none)
                    with self.assertRaises(NoWord):
                        holds(word, (), steps_of_none)
                    with self.assertRaises(NoWord):
                        holds((), word, steps_of_none)
                with self.assertRaises(NoWord):
                    shortened(word)

    def test_no_step_ahead_of_no_room(self):
        full = (GO,) * 30
        for step in [
            ("in", (), 31, ("go", 0)),
            ("in", (), 0, ("turn", 10**20 + 2)),
            ("in", (0,), 0, ("turn", 10**20)),
            ("close", (), 31, 0),
            ("close", (0,), 0, 0),
            ("part", (), 0, 3),
            ("part", (), 30, 10**30),
            ("twice", (), 30),
        ]:
            self.assert_told(full, step, NoStep)
        unlike = (("times", GREATEST, (GO,)), ("times", GREATEST, (TURN,)), ("go", GREATEST), ("jump", GREATEST))
        for place in range(4):
            self.assert_told(unlike, ("join", (), place), NoStep)


class WalkedAndHolds(Asking):
    """Point 73."""

    ONE = (("go", 4), ("turn", 1))
    STEPS = [("part", (), 0, 1), ("close", (), 0, 2), ("twice", (0,), 1), ("in", (), 2, ("times", 9, ()))]
    OTHER = (("times", 1, (("go", 1), ("go", 3), ("jump", -3), ("go", 3))), ("turn", 1), ("times", 9, ()))

    def test_walked(self):
        self.assertEqual(walked(self.ONE, self.STEPS), self.OTHER)
        self.assertEqual(walked(self.ONE, []), self.ONE)
        for word in WORDS:
            self.assertEqual(walked(word, []), word)

    def test_holds(self):
        self.assertIs(holds(self.ONE, self.OTHER, self.STEPS), True)
        self.assertIs(holds(self.ONE, self.ONE, []), True)
        self.assertIs(holds((), (), []), True)
        self.assertIs(holds(self.ONE, self.OTHER, []), False)
        self.assertIs(holds(self.OTHER, self.ONE, self.STEPS), False)
        self.assertIs(holds(self.ONE, self.ONE, self.STEPS), False)

    def test_a_step_left_out_or_exchanged(self):
        for place in range(len(self.STEPS)):
            self.assertIs(holds(self.ONE, self.OTHER, self.STEPS[:place] + self.STEPS[place + 1 :]), False)
        self.assertIs(holds(self.ONE, self.OTHER, self.STEPS[1::-1] + self.STEPS[2:]), False)
        self.assertIs(holds(self.ONE, self.OTHER, self.STEPS + [("out", (), 2)]), False)
        self.assertIs(holds(self.ONE, self.OTHER, self.STEPS + [("out", (), 2), self.STEPS[-1]]), True)

    def test_another_word(self):
        for other in [(), (("go", 4), ("turn", -3)), self.OTHER[:2], self.OTHER + (("go", 0),)]:
            self.assertIs(holds(self.ONE, other, self.STEPS), False)
        for one in [(), (("go", 5), ("turn", 1)), (("go", 4), ("turn", 2)), self.ONE + (("go", 0),)]:
            self.assertIs(holds(one, self.OTHER, self.STEPS), False)

    def test_a_step_that_cannot_be_done(self):
        for wrong in [("out", (), 0), ("join", (), 9), ("in", (), 0, ("go", 1)), ("in", (), 0, ("turn", 10**20))]:
            for place in range(len(self.STEPS) + 1):
                steps = self.STEPS[:place] + [wrong] + self.STEPS[place:]
                self.assertIs(holds(self.ONE, self.OTHER, steps), False)
                self.assertIs(holds(self.ONE, self.ONE, [wrong]), False)

    def test_the_first_step_that_is_refused(self):
        no_step = ("out", (), 0)
        no_room = ("in", (), 0, ("turn", 10**20))
        for steps, asked in [
            ([no_step, no_room], NoStep),
            ([no_room, no_step], NoRoom),
            (self.STEPS + [no_room, no_step], NoRoom),
            (self.STEPS + [no_step, no_room], NoStep),
            ([self.STEPS[0], no_room] + self.STEPS[1:], NoRoom),
            ([self.STEPS[0], no_step] + self.STEPS[1:], NoStep),
            ([("in", (), 0, ("go", 0))] * 28 + [no_step], ()),
            ([("in", (), 0, ("go", 0))] * 28 + [("join", (), 29)], NoStep),
            ([("in", (), 0, ("go", 0))] * 29 + [no_step], NoRoom),
        ]:
            with self.subTest(steps=steps):
                if asked == ():
                    self.assertEqual(deeds_in(walked(self.ONE, steps)), 29)
                else:
                    with self.assertRaises(asked):
                        walked(self.ONE, steps)

    def test_a_way_there_and_back(self):
        chance = random.Random(73)
        for word in some_words(40):
            here, there, back = word, [], []
            for _ in range(25):
                step = chance.choice(all_steps(here))
                came = slow_stepped(here, step)
                if isinstance(came, tuple):
                    there.append(step)
                    back.insert(0, taken_back(here, step))
                    here = came
            self.assertEqual(walked(word, there), here)
            self.assertIs(holds(word, here, there), True)
            self.assertIs(holds(here, word, back), True)
            self.assertIs(holds(word, word, there + back), True)


def can_be_shortened(word):
    """All steps of the kinds out, open, join and once that can be done."""
    steps = [step for step in all_steps(word) if step[0] in ("out", "open", "join", "once")]
    return [step for step in steps if isinstance(slow_stepped(word, step), tuple)]


class Shortened(unittest.TestCase):
    """Point 74."""

    def assert_shortened(self, word):
        steps = shortened(word)
        self.assertIs(type(steps), list)
        here = word
        for step in steps:
            self.assertIn(step[0], ("out", "open", "join", "once"))
            self.assertIn(step, can_be_shortened(here))
            here = slow_stepped(here, step)
        self.assertEqual(can_be_shortened(here), [])
        self.assertEqual(walked(word, steps), here)
        self.assertIs(holds(word, here, steps), True)
        self.assertEqual(shortened(here), [])
        return here

    def test_where_nothing_can_be_done(self):
        for word in [
            (),
            (("go", 3),),
            (("go", 1), ("turn", 1), ("go", 1), ("turn", 1)),
            (("times", 4, (("go", 2), ("turn", 1))),),
            (("go", 2), ("jump", -2), ("go", 3)),
            (("times", 2, (GO,)), ("times", 2, (TURN,))),
            (("times", 2, (("times", 3, (GO,)),)),),
            (("go", 1), ("jump", 1)) * 15,
        ]:
            with self.subTest(word=word):
                self.assertEqual(shortened(word), [])
                self.assert_shortened(word)

    def test_where_much_can_be_done(self):
        for word, asked in [
            ((("go", 0),), ()),
            ((("go", 0),) * 30, ()),
            ((("go", 1),) * 30, (("go", 30),)),
            ((("turn", 1), ("turn", 3)), ()),
            ((("jump", 5), ("jump", -5)), ()),
            ((("times", 1, (("go", 2),)), ("go", 1)), (("go", 3),)),
            ((GO, ("jump", -2), GO), (GO,)),
            ((GO, ("jump", -2), GO, ("jump", -2), GO), (GO,)),
            ((GO, ("jump", -3), ("turn", 4), ("jump", 1), GO), (GO,)),
            (nested(4, ()), ()),
            (nested(3, (("times", 1, ()),)), ()),
            ((("times", 2, (GO,)), ("times", 3, (GO,))), (("times", 5, (GO,)),)),
            ((("times", 2, (GO, ("turn", 0))), ("times", 3, (("turn", 4), GO))), (("times", 5, (GO,)),)),
            ((("times", 0, (("go", 1),) * 28), TURN), (TURN,)),
        ]:
            with self.subTest(word=word):
                self.assertEqual(self.assert_shortened(word), asked)

    def test_within_times(self):
        inside = (("go", 1), ("turn", 4), ("go", 1), ("jump", -2), ("times", 1, (("go", 2),)))
        for depth in range(1, 4):
            self.assertEqual(self.assert_shortened(nested(depth, inside)), nested(depth, (("go", 2),)))

    def test_joined_numbers_that_would_have_too_many_figures(self):
        for word, asked in [
            ((("go", GREATEST), ("go", 1)), [(("go", GREATEST), ("go", 1))]),
            ((("jump", -GREATEST), ("jump", -1)), [(("jump", -GREATEST), ("jump", -1))]),
            ((("times", GREATEST, (GO,)),) * 3, [(("times", GREATEST, (GO,)),) * 3]),
            ((("turn", GREATEST), ("turn", GREATEST)), [(("turn", GREATEST),) * 2]),
            ((("go", GREATEST), ("go", 0)), [(("go", GREATEST),)]),
            ((("go", GREATEST), ("go", 1), ("go", 2)), [(("go", GREATEST), ("go", 3))]),
            ((("go", GREATEST), ("go", GREATEST), TURN, TURN), [(("go", GREATEST),) * 2 + (("turn", 2),)]),
            ((("jump", GREATEST), ("jump", GREATEST), ("jump", -GREATEST)), [(("jump", GREATEST),)]),
            (nested(2, (("go", GREATEST), ("go", 1), ("go", 0))), [nested(2, (("go", GREATEST), ("go", 1)))]),
        ]:
            with self.subTest(word=word):
                self.assertIn(self.assert_shortened(word), asked)

    def test_many_words(self):
        shorter = 0
        for word in WORDS + some_words(150):
            shorter += count(self.assert_shortened(word)) < count(word)
        self.assertGreater(shorter, 50)

    def test_words_that_were_made_longer(self):
        chance = random.Random(74)
        for word in [(GO, TURN), (TIMES,), (("times", 4, (GO, TURN, ("times", 2, (JUMP,)))),)]:
            for _ in range(15):
                here = word
                for _ in range(60):
                    step = chance.choice(all_steps(here))
                    came = slow_stepped(here, step)
                    if isinstance(came, tuple) and count(came) <= 18:
                        here = came
                self.assert_shortened(here)


class NothingIsKept(unittest.TestCase):
    """Point 1."""

    def test_steps_that_are_handed_in_stay_as_they_were(self):
        steps = list(WalkedAndHolds.STEPS)
        before = copy.deepcopy(steps)
        walked(WalkedAndHolds.ONE, steps)
        holds(WalkedAndHolds.ONE, WalkedAndHolds.OTHER, steps)
        holds(WalkedAndHolds.ONE, (), steps)
        self.assertEqual(steps, before)
        steps.append(("out", (), 0))
        with self.assertRaises(NoStep):
            walked(WalkedAndHolds.ONE, steps)
        self.assertEqual(steps, before + [("out", (), 0)])

    def test_what_is_told_is_the_askers_own(self):
        for word in [(), (("go", 0),), (GO, GO, GO)]:
            first = shortened(word)
            asked = list(first)
            self.assertTrue(no_two_are_one([first, shortened(word)]))
            first.append("spoilt")
            self.assertEqual(shortened(word), asked)

    def test_the_same_is_answered_whatever_was_asked_before(self):
        words = WORDS + some_words(20)
        first = [(shortened(word), walked(word, shortened(word))) for word in words]
        with self.assertRaises(NoStep):
            stepped((), ("join", (), 0))
        again = [(shortened(word), walked(word, shortened(word))) for word in reversed(words)]
        self.assertEqual(first, again[::-1])
