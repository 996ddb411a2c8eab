import random
import unittest
from unittest import mock

from penwright import great
from penwright.errors import NoPicture, NoRoom, NoWord
from penwright.great import box_of, drawn_often
from penwright.words import strokes_drawn
from tests.helper import GREATEST, NO_WORDS, count, nested, slowly_carried, slowly_drawn, some_words, two_ends

NO_STROKES = [(0, 0, 2), (0, 0, -1), (0, 0, 10**30), (5, -5, 7), (0, 0, -(10**30))]


def slow_box(strokes):
    if not strokes:
        return None
    xs = [x for stroke in strokes for x, _ in two_ends(stroke)]
    ys = [y for stroke in strokes for _, y in two_ends(stroke)]
    return (min(xs), min(ys), max(xs), max(ys))


def is_within(box, stroke):
    return box is not None and all(
        box[0] <= x <= box[2] and box[1] <= y <= box[3] for x, y in two_ends(stroke)
    )


def slowly_looked_at(word, pen, stroke):
    """How many doings are looked at, one by one as point 41 tells."""
    looked = 0
    for deed in word:
        if deed[0] == "times":
            behind = slowly_carried((0, 0, 0), deed[2])
            doings = deed[1]
            if behind[2] != 0:
                doings = min(doings, 4)
            elif behind == (0, 0, 0):
                doings = min(doings, 1)
            start = pen
            for _ in range(doings):
                if is_within(slow_box(slowly_drawn(deed[2], start)), stroke):
                    looked += 1 + slowly_looked_at(deed[2], start, stroke)
                start = slowly_carried(start, deed[2])
        pen = slowly_carried(pen, (deed,))
    return looked


def some_word_of_times(chance, depth):
    """A word of times within one another, whose doings often lie across one another."""
    deeds = []
    for _ in range(chance.randint(1, 3)):
        kind = chance.choice(["go", "jump", "turn", "times", "times"])
        if kind == "go" or (kind == "times" and depth == 0):
            deeds.append(("go", chance.randint(0, 6)))
        elif kind == "jump":
            deeds.append(("jump", chance.randint(-6, 6)))
        elif kind == "turn":
            deeds.append(("turn", chance.choice([-1, 1, 2, 3, 4, 4, 8, 0])))
        else:
            deeds.append(("times", chance.randint(0, 6), some_word_of_times(chance, depth - 1)))
    return tuple(deeds)


def row_of_long(doings, ahead):
    """Doings that each lead one point on, and draw so many strokes ahead."""
    return (("times", doings, (("go", ahead), ("jump", 1 - ahead))),)


class Boxes(unittest.TestCase):
    """Point 40."""

    def test_words_that_draw_nothing(self):
        for word in [
            (),
            (("go", 0),),
            (("jump", GREATEST), ("turn", 1), ("jump", -5)),
            (("times", 0, (("go", 5),)),),
            (("times", GREATEST, ()),),
            (("times", GREATEST, (("jump", 3), ("go", 0))),),
            (("times", GREATEST, (("times", 0, (("go", 1),)), ("turn", 1))),),
        ]:
            with self.subTest(word=word):
                self.assertIsNone(box_of(word))

    def test_plain_words(self):
        self.assertEqual(box_of((("go", 3),)), (0, 0, 3, 0))
        self.assertEqual(box_of((("turn", 1), ("go", 3))), (0, 0, 0, 3))
        self.assertEqual(box_of((("turn", 2), ("go", 3))), (-3, 0, 0, 0))
        self.assertEqual(box_of((("turn", -1), ("go", 3))), (0, -3, 0, 0))
        self.assertEqual(box_of((("jump", 5), ("go", 1))), (5, 0, 6, 0))
        self.assertEqual(box_of((("jump", -5), ("turn", 1), ("go", 2), ("jump", 100))), (-5, 0, -5, 2))
        self.assertEqual(box_of((("go", 2), ("turn", 1), ("go", 3), ("turn", 1), ("go", 4))), (-2, 0, 2, 3))

    def test_great_numbers(self):
        word = (("go", GREATEST), ("turn", 1), ("jump", -GREATEST), ("go", GREATEST), ("turn", 1), ("go", 1))
        self.assertEqual(box_of(word), (0, -GREATEST, GREATEST, 0))
        self.assertEqual(box_of((("jump", GREATEST), ("go", GREATEST))), (GREATEST, 0, 2 * GREATEST, 0))
        self.assertEqual(box_of((("turn", GREATEST), ("go", GREATEST))), (0, -GREATEST, 0, 0))

    def test_a_times_whose_word_shifts_the_pen(self):
        step = (("go", 2), ("turn", 1), ("go", 1), ("turn", -1))
        self.assertEqual(box_of((("times", 3, step),)), (0, 0, 6, 3))
        self.assertEqual(box_of((("times", GREATEST, step),)), (0, 0, 2 * GREATEST, GREATEST))
        back = (("go", 5), ("jump", -7))
        self.assertEqual(box_of((("times", 1, back),)), (0, 0, 5, 0))
        self.assertEqual(box_of((("times", GREATEST, back),)), (2 - 2 * GREATEST, 0, 5, 0))

    def test_a_times_whose_word_turns_the_pen(self):
        corner = (("go", 2), ("turn", 1))
        boxes = [None, (0, 0, 2, 0), (0, 0, 2, 2), (0, 0, 2, 2), (0, 0, 2, 2), (0, 0, 2, 2)]
        for often, box in enumerate(boxes):
            self.assertEqual(box_of((("times", often, corner),)), box)
        away = (("jump", 10), ("go", 1), ("turn", 1))
        boxes = [(10, 0, 11, 0), (10, 0, 11, 11), (0, 0, 11, 11), (0, 0, 11, 11)]
        for often, box in enumerate(boxes, start=1):
            self.assertEqual(box_of((("times", often, away),)), box)
        self.assertEqual(box_of((("times", GREATEST, away),)), (0, 0, 11, 11))
        back = (("go", 3), ("turn", 2), ("go", 5), ("turn", 4))
        self.assertEqual(box_of((("times", GREATEST, back),)), (-5, 0, 3, 0))

    def test_great_times_within_one_another(self):
        word = (("go", GREATEST),)
        for _ in range(4):
            word = (("times", GREATEST, word),)
        self.assertEqual(box_of(word), (0, 0, GREATEST**5, 0))
        self.assertEqual(box_of((("turn", 1), ("jump", -1)) + word), (0, -1, 0, GREATEST**5 - 1))
        slant = (("times", GREATEST, (("times", GREATEST, (("go", 1), ("turn", 1), ("jump", -1), ("turn", 3))),)),)
        self.assertEqual(box_of(slant), (0, 1 - GREATEST**2, GREATEST**2, 0))
        turning = (("times", GREATEST, (("times", GREATEST, (("go", 1),)), ("turn", 1))),)
        self.assertEqual(box_of(turning), (0, 0, GREATEST, GREATEST))
        upwards = ("times", GREATEST, (("turn", 1), ("go", 7), ("turn", -1)))
        wide = (("times", GREATEST, (("go", 1), upwards, ("jump", -1))),)
        self.assertEqual(box_of(wide), (0, 0, 1, 7 * GREATEST**2))

    def test_as_if_drawn_stroke_by_stroke(self):
        for word in some_words(800):
            with self.subTest(word=word):
                told = box_of(word)
                self.assertEqual(told, slow_box(slowly_drawn(word)))
                if told is not None:
                    self.assertIs(type(told), tuple)

    def test_what_is_no_word_is_refused(self):
        for word in NO_WORDS:
            with self.subTest(word=word):
                with self.assertRaises(NoWord):
                    box_of(word)


class HowOften(unittest.TestCase):
    """Points 40 and 41."""

    def test_both_ways_from_either_side(self):
        for turns, stroke in [(0, (2, 0, 0)), (1, (0, 2, 1)), (2, (-3, 0, 0)), (3, (0, -3, 1))]:
            there = (("turn", turns), ("go", 5))
            self.assertEqual(drawn_often(there, stroke), 1)
            self.assertEqual(drawn_often(there + (("turn", 2), ("go", 5)), stroke), 2)
            self.assertEqual(drawn_often(there + (("turn", 2), ("go", 2)), stroke), 1)
            self.assertEqual(drawn_often(there + (("jump", -5), ("go", 2)), stroke), 1)
            self.assertEqual(drawn_often(there + (("jump", -5), ("go", 3)), stroke), 2)
            self.assertEqual(drawn_often((("turn", turns), ("jump", 5)), stroke), 0)
            self.assertEqual(drawn_often((("turn", turns), ("jump", 3), ("go", 9)), stroke), 0)
            self.assertEqual(drawn_often((("turn", turns), ("go", 2)), stroke), 0)

    def test_strokes_that_only_touch_what_is_drawn(self):
        word = (("go", 5),)
        for stroke in [(-1, 0, 0), (5, 0, 0), (0, 0, 1), (2, 0, 1), (5, 0, 1), (2, -1, 1), (2, 1, 0), (2, -1, 0)]:
            self.assertEqual(drawn_often(word, stroke), 0)
        # Both ends lie within the box, and no go leads along.
        self.assertEqual(drawn_often((("go", 3), ("turn", 1), ("go", 3)), (1, 1, 0)), 0)

    def test_several_doings(self):
        self.assertEqual(drawn_often((("times", 7, (("go", 3), ("jump", -2))),), (4, 0, 0)), 3)
        self.assertEqual(drawn_often((("times", 7, (("go", 3), ("jump", -2))),), (0, 0, 0)), 1)
        self.assertEqual(drawn_often((("times", 7, (("go", 3), ("jump", -2))),), (8, 0, 0)), 1)
        self.assertEqual(drawn_often((("times", 7, (("go", 3), ("jump", -2))),), (9, 0, 0)), 0)
        self.assertEqual(drawn_often((("times", 9, (("go", 2), ("turn", 1))),), (0, 0, 0)), 3)
        self.assertEqual(drawn_often((("times", 9, (("go", 2), ("turn", 1))),), (0, 1, 1)), 2)

    def test_great_numbers(self):
        self.assertEqual(drawn_often((("go", GREATEST),), (GREATEST - 1, 0, 0)), 1)
        self.assertEqual(drawn_often((("go", GREATEST),), (GREATEST, 0, 0)), 0)
        self.assertEqual(drawn_often((("go", 5),), (10**60, -(10**60), 1)), 0)
        word = (("go", GREATEST),)
        for _ in range(4):
            word = (("times", GREATEST, word),)
        for far in (0, 1, GREATEST, GREATEST**3 + 5, GREATEST**5 - 1):
            self.assertEqual(drawn_often(word, (far, 0, 0)), 1)
        for far in (-1, GREATEST**5, GREATEST**6):
            self.assertEqual(drawn_often(word, (far, 0, 0)), 0)
        step = (("times", GREATEST, (("go", 3), ("turn", 1), ("go", 2), ("turn", -1))),)
        self.assertEqual(drawn_often(step, (3 * 10**15 + 1, 2 * 10**15, 0)), 1)
        self.assertEqual(drawn_often(step, (3 * 10**15, 2 * 10**15 - 1, 1)), 1)
        self.assertEqual(drawn_often(step, (3 * 10**15 + 1, 2 * 10**15 + 1, 0)), 0)
        self.assertEqual(drawn_often((("turn", 2),) + step, (-3 * 10**15 - 1, -2 * 10**15, 0)), 1)

    def test_a_word_that_turns_the_pen(self):
        word = (("times", GREATEST, (("go", 1), ("turn", 1))),)
        # 10 ** 20 - 1 doings: the first three of four come once more.
        quarter = 25 * 10**18
        for stroke in [(0, 0, 0), (1, 0, 1), (0, 1, 0)]:
            self.assertEqual(drawn_often(word, stroke), quarter)
        self.assertEqual(drawn_often(word, (0, 0, 1)), quarter - 1)
        back = (("times", GREATEST, (("go", 4), ("turn", 2))),)
        self.assertEqual(drawn_often(back, (2, 0, 0)), GREATEST)
        within = (("times", GREATEST, (("times", GREATEST, (("go", 4), ("turn", 2))), ("turn", 1))),)
        several = sum(drawn_often(within, (x, y, way)) for x in range(-5, 6) for y in range(-5, 6) for way in (0, 1))
        self.assertEqual(several, strokes_drawn(within))
        for number in range(12):
            for stroke in [(0, 0, 0), (3, 0, 1), (-1, 2, 0), (2, 3, 0), (0, 0, 1)]:
                for turns in (1, 2, 3, -1, 5):
                    turning = (("times", number, (("go", 3), ("turn", turns), ("go", 1))),)
                    self.assertEqual(drawn_often(turning, stroke), slowly_drawn(turning).count(stroke))

    def test_a_word_that_leaves_the_pen_as_it_was(self):
        there_and_back = (("go", 5), ("turn", 2), ("go", 5), ("turn", 2))
        word = (("times", GREATEST, there_and_back),)
        self.assertEqual(drawn_often(word, (3, 0, 0)), 2 * GREATEST)
        self.assertEqual(drawn_often(word, (5, 0, 0)), 0)
        self.assertEqual(drawn_often((("times", GREATEST, word),), (0, 0, 0)), 2 * GREATEST**2)
        around = (("times", GREATEST, (("times", 4, (("go", 2), ("turn", 1))),)),)
        self.assertEqual(drawn_often(around, (1, 2, 0)), GREATEST)

    def test_a_times_of_nought_and_one_that_draws_nothing(self):
        self.assertEqual(drawn_often((("times", 0, (("go", 5),)),), (0, 0, 0)), 0)
        self.assertEqual(drawn_often((("times", 0, (("go", 5), ("turn", 1))),), (0, 0, 0)), 0)
        self.assertEqual(drawn_often((("times", 0, (("go", 5), ("jump", -5))),), (0, 0, 0)), 0)
        self.assertEqual(drawn_often((("times", GREATEST, (("jump", 1),)), ("go", 1)), (GREATEST, 0, 0)), 1)
        self.assertEqual(drawn_often((("times", GREATEST, ()), ("go", 1)), (0, 0, 0)), 1)
        self.assertEqual(drawn_often((("times", GREATEST, (("go", 0), ("turn", 1))), ("go", 1)), (0, -1, 1)), 1)
        self.assertEqual(drawn_often((("times", 5, (("times", 0, (("go", 9),)), ("jump", 1))),), (3, 0, 0)), 0)

    def test_every_stroke_is_counted(self):
        for word in some_words(150):
            drawn = slowly_drawn(word)
            for stroke in sorted(set(drawn))[:60]:
                if slowly_looked_at(word, (0, 0, 0), stroke) <= 1000:
                    self.assertEqual(drawn_often(word, stroke), drawn.count(stroke))

    def test_as_if_drawn_and_looked_at_one_by_one(self):
        chance = random.Random(41)
        looked_at = []
        for _ in range(2500):
            word = some_word_of_times(chance, 4)
            drawn = slowly_drawn(word)
            if count(word) > 30 or len(drawn) > 3000:
                continue
            x, y, way = chance.choice(drawn) if drawn else (0, 0, 0)
            for stroke in [(x, y, way), (x, y, 1 - way), (x + chance.randint(-2, 2), y + chance.randint(-2, 2), way)]:
                looked = slowly_looked_at(word, (0, 0, 0), stroke)
                looked_at.append(looked)
                with self.subTest(word=word, stroke=stroke):
                    self.assert_looks(word, stroke, drawn.count(stroke), looked)
        self.assertGreater(len([looked for looked in looked_at if looked > 5]), 50)

    def assert_looks(self, word, stroke, often, looked):
        with mock.patch.object(great, "MOST_LOOKED_AT", looked):
            self.assertEqual(drawn_often(word, stroke), often)
        if looked > 0:
            with mock.patch.object(great, "MOST_LOOKED_AT", looked - 1):
                with self.assertRaises(NoRoom):
                    drawn_often(word, stroke)


class TooManyDoings(unittest.TestCase):
    """Point 41."""

    def test_in_one_times(self):
        self.assertEqual(drawn_often(row_of_long(1000, 2000), (1500, 0, 0)), 1000)
        self.assertEqual(drawn_often(row_of_long(5000, 1000), (1500, 0, 0)), 1000)
        self.assertEqual(drawn_often(row_of_long(5000, 1001), (999, 0, 0)), 1000)
        for word, stroke in [
            (row_of_long(1001, 2000), (1500, 0, 0)),
            (row_of_long(5000, 1001), (1500, 0, 0)),
            (row_of_long(5000, 1001), (1000, 0, 0)),
            (row_of_long(GREATEST, GREATEST), (10**19, 0, 0)),
        ]:
            with self.subTest(word=word):
                with self.assertRaises(NoRoom):
                    drawn_often(word, stroke)

    def test_doings_that_do_not_draw_the_stroke_are_looked_at_too(self):
        up = (("turn", 1), ("jump", 1), ("turn", -1))
        down = (("turn", -1), ("jump", 1), ("turn", 1))
        hollow = (("go", 1),) + up + (("jump", 3000), ("go", 1)) + down + (("jump", -3001),)
        self.assertEqual(drawn_often((("times", 1000, hollow),), (2000, 0, 0)), 0)
        with self.assertRaises(NoRoom):
            drawn_often((("times", 1001, hollow),), (2000, 0, 0))
        # Where the box doesn't reach, none is looked at, however many lie beside the stroke.
        self.assertEqual(drawn_often(row_of_long(GREATEST, GREATEST), (10**19, 1, 0)), 0)
        self.assertEqual(drawn_often((("turn", 1),) + row_of_long(GREATEST, GREATEST), (-1, 10**19, 1)), 0)
        self.assertEqual(drawn_often(row_of_long(GREATEST, GREATEST), (10**19, 0, 1)), 0)
        self.assertEqual(drawn_often((("times", GREATEST, hollow),), (2000, 2, 0)), 0)
        self.assertEqual(drawn_often((("times", GREATEST, hollow),), (2000, 1, 1)), 0)
        self.assertEqual(drawn_often((("times", GREATEST, hollow),), (-1, 0, 0)), 0)

    def test_several_times_in_one_word(self):
        word = row_of_long(600, 2000) + (("jump", -600),)
        self.assertEqual(drawn_often(word + row_of_long(400, 2000), (1500, 0, 0)), 1000)
        with self.assertRaises(NoRoom):
            drawn_often(word + row_of_long(401, 2000), (1500, 0, 0))

    def test_in_times_within_one_another(self):
        # Each of the outer doings, and each of the doings in it.
        for outer, inner in [(1, 999), (10, 99), (20, 49), (40, 24), (500, 1)]:
            row = row_of_long(inner, 3000)
            word = (("times", outer, row + (("jump", 1 - inner),)),)
            self.assertEqual(drawn_often(word, (2000, 0, 0)), outer * inner)
            one_more = (("times", 1, (("go", 3000), ("jump", -3000))),)
            looked = outer + outer * inner
            if looked < 1000:
                more = 1000 - looked
                self.assertEqual(drawn_often(word + row_of_long(more, 3000), (2000, 0, 0)), outer * inner + more)
                word = word + row_of_long(more, 3000)
            with self.assertRaises(NoRoom):
                drawn_often(one_more + word, (2000, 0, 0))

    def test_a_doing_that_is_not_looked_at_is_not_looked_into(self):
        row = row_of_long(999, 3000)
        word = (("times", GREATEST, row + (("jump", 1000000),)),)
        self.assertEqual(drawn_often(word, (2000, 0, 0)), 999)
        self.assertEqual(drawn_often(word, (2000 + 5 * 1000999, 0, 0)), 999)

    def test_a_word_that_turns_the_pen_is_looked_at_four_times(self):
        # There and back: each of the doings 0 to 3 draws the stroke.
        for inner, refused in [(249, False), (250, True)]:
            row = row_of_long(inner, 3000) + (("jump", 3000 - inner), ("turn", 2), ("jump", 0))
            word = (("times", GREATEST, row),)
            stroke = (1500, 0, 0)
            if refused:
                with self.assertRaises(NoRoom):
                    drawn_often(word, stroke)
            else:
                self.assertEqual(drawn_often(word, stroke), GREATEST * inner)

    def test_a_word_that_leaves_the_pen_as_it_was_is_looked_at_once(self):
        for inner, refused in [(999, False), (1000, True)]:
            word = (("times", GREATEST, row_of_long(inner, 3000) + (("jump", -inner),)),)
            if refused:
                with self.assertRaises(NoRoom):
                    drawn_often(word, (2000, 0, 0))
            else:
                self.assertEqual(drawn_often(word, (2000, 0, 0)), GREATEST * inner)

    def test_a_times_of_nought_is_not_looked_at(self):
        full = row_of_long(1000, 3000) + (("jump", -1000),)
        for idle in [
            ("times", 0, (("go", 3000), ("jump", -3000))),
            ("times", 0, (("go", 3000), ("turn", 1))),
            ("times", 0, (("go", 3000),)),
            ("times", GREATEST, (("jump", 0),)),
            ("times", GREATEST, (("go", 0), ("turn", 4))),
            ("times", GREATEST, (("times", 0, (("go", 3000),)),)),
        ]:
            with self.subTest(idle=idle):
                self.assertEqual(drawn_often(full + (idle,), (2000, 0, 0)), 1000)
                self.assertEqual(drawn_often((idle,) + full, (2000, 0, 0)), 1000)

    def test_what_is_refused_first(self):
        great_word = row_of_long(GREATEST, GREATEST)
        for word in NO_WORDS:
            with self.subTest(word=word):
                for stroke in [(0, 0, 0), (0, 0, 2)]:
                    with self.assertRaises(NoWord):
                        drawn_often(word, stroke)
        with self.assertRaises(NoWord):
            drawn_often(great_word + (("go", -1),), (10**19, 0, 0))
        for word in [(), (("go", 5),), great_word, nested(4, (("go", 1),))]:
            for stroke in NO_STROKES + [(10**19, 0, 2)]:
                with self.subTest(word=word, stroke=stroke):
                    with self.assertRaises(NoPicture):
                        drawn_often(word, stroke)


class NothingIsKept(unittest.TestCase):
    """Point 1."""

    def test_looks_are_counted_anew_each_time(self):
        word = row_of_long(1000, 2000)
        for _ in range(3):
            self.assertEqual(drawn_often(word, (1500, 0, 0)), 1000)
            with self.assertRaises(NoRoom):
                drawn_often(row_of_long(1001, 2000), (1500, 0, 0))
