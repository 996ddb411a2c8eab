import random
import unittest

from penwright.errors import NoPicture, NoRoom, NoWord
from penwright.ever import alike_ever, ever_drawn, ever_of, parting_ever, parts_ever
from tests.helper import GREATEST, NO_WORDS, is_picture, plain_deeds, slowly_carried, slowly_drawn

NO_STROKES = [(0, 0, 2), (0, 0, -1), (0, 0, 10**30), (5, -5, 7)]

NOTHING = ("times", GREATEST, (("times", 0, (("go", 5),)), ("times", GREATEST, ())))

# Of just 60 points.
JUST_SHORT = [
    (("go", 60),),
    (("jump", 60),),
    (("jump", -60),),
    (("go", 20), ("jump", -20), ("go", 20)),
    (("jump", -30), ("jump", 30)),
    (("times", 60, (("go", 1),)),),
    (("times", 6, (("times", 5, (("jump", -1), ("go", 1))),)),),
    (("times", 0, (("go", 500),)), ("go", 60)),
    (("times", 0, (("jump", -GREATEST),)), ("jump", -60)),
    (("go", 30), ("turn", 1), ("jump", 30), ("turn", GREATEST)),
    (("times", 400, (("turn", 1),)),),
    (("times", 340, (("turn", 1),)), ("times", 60, (("go", 1),))),
    (("times", 400, (("go", 0),)),),
    (("go", 60), NOTHING),
]

# One point more, or not small.
NOT_SHORT = [
    (("go", 61),),
    (("jump", 61),),
    (("jump", -61),),
    (("go", 20), ("jump", -21), ("go", 20)),
    (("jump", -31), ("jump", 30)),
    (("times", 61, (("go", 1),)),),
    (("times", 61, (("jump", -1),)),),
    (("times", 6, (("times", 5, (("jump", -1), ("go", 1))),)), ("jump", 1)),
    (("times", 0, (("go", 500),)), ("go", 61)),
    (("go", 30), ("turn", 1), ("jump", -31)),
    (("times", 30, (("go", 1), ("jump", -1))), ("jump", -1)),
    (("times", 401, (("turn", 1),)),),
    (("times", 341, (("turn", 1),)), ("times", 60, (("go", 1),))),
    (("times", 401, (("go", 0),)),),
    (("go", 401),),
    (("go", GREATEST),),
    (("jump", -GREATEST),),
    (("times", GREATEST, (("turn", 4),)),),
]

SHORT = (("go", 1),)


def slowly_ever(word, doings):
    """The strokes that come by so many doings."""
    strokes = set()
    pen = (0, 0, 0)
    for _ in range(doings):
        strokes.update(slowly_drawn(word, pen))
        pen = slowly_carried(pen, word)
    return strokes


def some_short_word(chance, most_points, lines):
    """A short word; on one line, or going anywhere."""
    while True:
        deeds = []
        for _ in range(chance.randint(1, 6)):
            kind = chance.choice(["go", "go", "jump", "turn"])
            if kind == "go":
                deeds.append(("go", chance.randint(0, 3)))
            elif kind == "jump":
                deeds.append(("jump", chance.randint(-4, 4)))
            else:
                deeds.append(("turn", chance.choice([0, 2, 2, 4] if lines else [-1, 1, 2, 3, 0])))
        if chance.randint(0, 3) == 0:
            deeds = [("times", chance.randint(0, 4), tuple(deeds))]
        if chance.randint(0, 1) == 0:
            deeds.append(("turn", -slowly_carried((0, 0, 0), tuple(deeds))[2]))
        word = tuple(deeds)
        if sum(abs(number) for kind, number in plain_deeds(word) if kind != "turn") <= most_points:
            return word


class Short(unittest.TestCase):
    """Point 50."""

    def test_just_sixty_points(self):
        for word in JUST_SHORT:
            with self.subTest(word=word):
                self.assertEqual(len(ever_of(word)), 2)
                self.assertIn(ever_drawn(word, (0, 0, 0)), (True, False))
                self.assertIs(alike_ever(word, word), True)
                self.assertIsNone(parting_ever(word, word))
                self.assertIs(parts_ever(word, word, (0, 0, 0)), False)

    def test_sixty_one_points_and_what_is_not_small(self):
        for word in NOT_SHORT:
            for ask in (
                lambda: ever_of(word),
                lambda: ever_drawn(word, (0, 0, 0)),
                lambda: alike_ever(word, SHORT),
                lambda: alike_ever(SHORT, word),
                lambda: alike_ever(word, word),
                lambda: parting_ever(word, SHORT),
                lambda: parting_ever(SHORT, word),
                lambda: parts_ever(word, SHORT, (0, 0, 0)),
                lambda: parts_ever(SHORT, word, (0, 0, 0)),
            ):
                with self.subTest(word=word):
                    with self.assertRaises(NoRoom):
                        ask()

    def test_what_is_no_word_is_refused_first(self):
        for word in NO_WORDS:
            for other in (SHORT, NOT_SHORT[0]):
                for ask in (
                    lambda: ever_of(word),
                    lambda: ever_drawn(word, (0, 0, 0)),
                    lambda: ever_drawn(word, (0, 0, 2)),
                    lambda: alike_ever(word, other),
                    lambda: alike_ever(other, word),
                    lambda: parting_ever(word, other),
                    lambda: parting_ever(other, word),
                    lambda: parts_ever(word, other, (0, 0, 2)),
                    lambda: parts_ever(other, word, (0, 0, 2)),
                ):
                    with self.subTest(word=word):
                        with self.assertRaises(NoWord):
                            ask()

    def test_what_is_no_stroke_is_refused_last(self):
        for stroke in NO_STROKES:
            for word in JUST_SHORT:
                with self.assertRaises(NoPicture):
                    ever_drawn(word, stroke)
                with self.assertRaises(NoPicture):
                    parts_ever(word, SHORT, stroke)
                with self.assertRaises(NoPicture):
                    parts_ever(SHORT, word, stroke)
            for word in NOT_SHORT:
                with self.assertRaises(NoRoom):
                    ever_drawn(word, stroke)
                with self.assertRaises(NoRoom):
                    parts_ever(word, SHORT, stroke)
                with self.assertRaises(NoRoom):
                    parts_ever(SHORT, word, stroke)


class WhatIsDrawn(unittest.TestCase):
    """Point 51."""

    def test_words_that_turn_the_pen(self):
        square = ((0, 0, 0), (0, 0, 1), (0, 1, 0), (1, 0, 1))
        self.assertEqual(ever_of((("go", 1), ("turn", 1))), (square, None))
        self.assertEqual(ever_of((("go", 1), ("turn", -3))), (square, None))
        right = tuple((x, y - 1, way) for x, y, way in square)
        self.assertEqual(ever_of((("go", 1), ("turn", -1))), (right, None))
        self.assertEqual(ever_of((("go", 1), ("turn", 2))), (((0, 0, 0),), None))
        self.assertEqual(ever_of((("go", 1), ("jump", 1), ("turn", 2))), (((0, 0, 0), (1, 0, 0)), None))
        self.assertEqual(ever_of((("turn", 1), ("go", 1))), (((-1, 0, 0), (-1, 0, 1), (-1, 1, 0), (0, 0, 1)), None))
        far = ever_of((("jump", 59), ("go", 1), ("turn", 1)))
        self.assertEqual(far, (((0, 0, 1), (0, 60, 0), (59, 0, 0), (60, 59, 1)), None))

    def test_words_that_leave_the_pen_where_it_was(self):
        self.assertEqual(ever_of((("go", 2), ("jump", -2))), (((0, 0, 0), (1, 0, 0)), None))
        self.assertEqual(ever_of((("go", 2), ("turn", 2), ("go", 2), ("turn", 2))), (((0, 0, 0), (1, 0, 0)), None))
        # It looks another way then, so there is more to come.
        turned = ever_of((("go", 2), ("turn", 2), ("go", 2)))
        self.assertEqual(turned, (((-2, 0, 0), (-1, 0, 0), (0, 0, 0), (1, 0, 0)), None))

    def test_words_that_draw_nothing(self):
        idle = ("times", 0, (("go", 9),))
        for word in ((), (("jump", 7),), (("turn", 1),), (("go", 0), ("jump", -1)), (idle, ("jump", 1))):
            with self.subTest(word=word):
                self.assertEqual(ever_of(word), ((), None))

    def test_words_that_shift_the_pen(self):
        self.assertEqual(ever_of((("go", 2),)), (((0, 0, 0), (1, 0, 0)), (2, 0)))
        self.assertEqual(ever_of((("go", 2), ("jump", -3))), (((0, 0, 0), (1, 0, 0)), (-1, 0)))
        self.assertEqual(ever_of((("turn", 1), ("go", 1), ("turn", -1))), (((0, 0, 1),), (0, 1)))
        self.assertEqual(ever_of((("turn", -1), ("go", 1), ("turn", 1))), (((0, -1, 1),), (0, -1)))
        slant = (("go", 1), ("turn", 5), ("jump", 3), ("turn", -1), ("turn", 4))
        self.assertEqual(ever_of(slant), (((0, 0, 0),), (1, 3)))
        self.assertEqual(ever_of((("go", 1), ("turn", 4))), (((0, 0, 0),), (1, 0)))

    def test_strokes_near_and_far_along_the_shift(self):
        word = (("jump", 2), ("go", 1), ("turn", 1), ("jump", 2), ("turn", -1))
        for far in (0, 1, 2, 59, 60, 61, 1000, 10**30):
            self.assertIs(ever_drawn(word, (2 + 3 * far, 2 * far, 0)), True)
            self.assertIs(ever_drawn(word, (2 + 3 * far, 2 * far, 1)), False)
            self.assertIs(ever_drawn(word, (3 + 3 * far, 2 * far, 0)), False)
            self.assertIs(ever_drawn(word, (2 + 3 * far, 2 * far + 1, 0)), False)
        for far in (-1, -2, -60, -(10**30)):
            self.assertIs(ever_drawn(word, (2 + 3 * far, 2 * far, 0)), False)

    def test_strokes_along_each_way(self):
        for quarters, (x, y) in enumerate([(2, 0), (0, 2), (-2, 0), (0, -2)]):
            word = (("turn", quarters), ("go", 1), ("jump", 1), ("turn", -quarters))
            first = ever_of(word)[0][0]
            for far in (0, 1, 7, 10**25):
                self.assertIs(ever_drawn(word, (first[0] + far * x, first[1] + far * y, first[2])), True)
                self.assertIs(ever_drawn(word, (first[0] + far * x, first[1] + far * y, 1 - first[2])), False)
            for far in (1, 7, 10**25):
                self.assertIs(ever_drawn(word, (first[0] - far * x, first[1] - far * y, first[2])), False)
            self.assertIs(ever_drawn(word, (first[0] + x // 2, first[1] + y // 2, first[2])), False)

    def test_strokes_of_what_comes_to_an_end(self):
        word = (("go", 1), ("turn", 1))
        self.assertIs(ever_drawn(word, (0, 1, 0)), True)
        self.assertIs(ever_drawn(word, (0, 2, 0)), False)
        self.assertIs(ever_drawn((("jump", 5),), (5, 0, 0)), False)
        self.assertIs(ever_drawn((("go", 3), ("jump", -3)), (2, 0, 0)), True)
        self.assertIs(ever_drawn((("go", 3), ("jump", -3)), (3, 0, 0)), False)

    def test_as_if_done_very_often(self):
        chance = random.Random(51)
        ends = 0
        for turn in range(500):
            word = some_short_word(chance, 30, turn % 2)
            picture, shift = ever_of(word)
            behind = slowly_carried((0, 0, 0), word)
            drawn = slowly_drawn(word)
            with self.subTest(word=word):
                self.assertTrue(is_picture(picture))
                if behind[2] != 0 or behind[:2] == (0, 0) or not drawn:
                    ends += 1
                    self.assertIsNone(shift)
                    self.assertEqual(picture, tuple(sorted(slowly_ever(word, 9))))
                else:
                    self.assertEqual(shift, behind[:2])
                    self.assertIs(type(shift), tuple)
                    self.assertEqual(picture, tuple(sorted(set(drawn))))
                strokes = slowly_ever(word, 120)
                for _ in range(20):
                    y = chance.choice([0, 0, chance.randint(-40, 40)])
                    stroke = (chance.randint(-40, 40), y, chance.randint(0, 1))
                    self.assertIs(ever_drawn(word, stroke), stroke in strokes)
        self.assertTrue(100 < ends < 400)


class Alike(unittest.TestCase):
    """Point 52."""

    def assert_alike(self, one, other):
        for first, second in ((one, other), (other, one)):
            self.assertIs(alike_ever(first, second), True)
            self.assertIsNone(parting_ever(first, second))
            for stroke in ((0, 0, 0), (7, 0, 0), (0, 0, 1), (1000, 0, 0)):
                self.assertIs(parts_ever(first, second, stroke), False)

    def assert_parted(self, one, other):
        for first, second in ((one, other), (other, one)):
            self.assertIs(alike_ever(first, second), False)
            stroke = parting_ever(first, second)
            self.assertTrue(is_picture((stroke,)))
            self.assertIs(parts_ever(first, second, stroke), True)
            self.assertIsNot(ever_drawn(first, stroke), ever_drawn(second, stroke))

    def test_another_beginning(self):
        word = (("go", 2), ("jump", 1))
        self.assert_alike(word, (("jump", 3), ("go", 2), ("jump", -5), ("go", 2), ("jump", 1)))
        self.assert_alike(word, (("jump", 1), ("go", 1), ("jump", -2), ("go", 1), ("jump", 2)))
        self.assert_alike((("go", 1),), (("jump", 3), ("go", 1), ("jump", -4), ("go", 3), ("jump", -2)))
        self.assert_alike((("go", 1), ("turn", 1)), (("turn", 1), ("go", 1), ("turn", -2)))

    def test_another_number_of_doings_in_one(self):
        for word in [
            (("go", 1),),
            (("go", 2), ("jump", 1)),
            (("go", 2), ("turn", 1), ("jump", 1), ("go", 1), ("turn", 3)),
            (("go", 1), ("turn", 1)),
            (("go", 1), ("jump", -1)),
        ]:
            for one in range(1, 6):
                for other in range(1, 6):
                    self.assert_alike((("times", one, word),), (("times", other, word),))
        self.assert_alike((("go", 59),), (("go", 60),))
        self.assert_alike((("go", 60),), (("go", 1),))
        self.assert_alike((("go", 31), ("jump", -2)), (("go", 43), ("jump", -12)))

    def test_another_order(self):
        apart = (("go", 1), ("jump", 2), ("go", 1), ("jump", 1))
        self.assert_alike(apart, (("jump", 3), ("go", 1), ("jump", -4), ("go", 1), ("jump", 4)))
        stairs = (("go", 2), ("turn", 1), ("go", 2), ("turn", 3))
        upper_first = (("jump", 2), ("turn", 1), ("go", 2), ("jump", -2), ("turn", 1), ("go", 2), ("turn", 2))
        self.assert_alike(stairs, upper_first + (("jump", 2), ("turn", 1), ("jump", 2), ("turn", 3)))
        self.assert_alike((("go", 3), ("jump", -3)), (("jump", 3), ("turn", 2), ("go", 3), ("turn", 2)))

    def test_what_draws_nothing(self):
        self.assert_alike((), (("jump", 5),))
        self.assert_alike((("turn", 1),), (("jump", -60),))
        self.assert_parted((), (("go", 1),))
        self.assert_parted((("jump", 3),), (("go", 1), ("turn", 1)))

    def test_one_comes_to_an_end(self):
        self.assert_parted((("go", 60),), (("go", 30), ("turn", 2), ("go", 30), ("turn", 2)))
        self.assert_parted((("go", 1),), (("go", 30), ("jump", -30)))
        self.assert_parted((("go", 1),), (("jump", 30), ("turn", 2), ("go", 30)))
        # The end lies far beyond what the word goes through in one doing.
        self.assert_parted((("go", 1),), (("go", 30), ("turn", 2), ("go", 30), ("turn", 1)))
        self.assert_parted((("turn", 2), ("go", 1), ("turn", 2)), (("go", 60), ("turn", 2)))

    def test_other_directions(self):
        ways = [(("turn", quarters), ("go", 1), ("turn", -quarters)) for quarters in range(4)]
        for one in range(4):
            for other in range(4):
                if one != other:
                    self.assert_parted(ways[one], ways[other])
                else:
                    self.assert_alike(ways[one], ways[other])
        self.assert_parted((("go", 30), ("jump", -29)), (("go", 29), ("jump", -30)))
        self.assert_parted((("jump", -29), ("go", 30)), (("go", 29), ("jump", -30)))
        slants = []
        for x in range(-4, 4):
            slants += [(("go", 1), ("jump", x), ("turn", 1), ("jump", y), ("turn", 3)) for y in (-2, -1, 1, 2)]
        for one in slants:
            for other in slants:
                if one != other:
                    self.assert_parted(one, other)

    def test_a_word_across_all_that_the_other_draws(self):
        # The row is crossed by the columns of the other, each at one place.
        row = (("go", 1),)
        columns = (("go", 20), ("jump", -20), ("turn", 1), ("jump", 1), ("turn", 3))
        self.assert_parted(row, columns)
        back = (("jump", -20), ("go", 20), ("turn", 1), ("jump", 1), ("turn", 3))
        self.assert_parted((("turn", 2), ("go", 1), ("turn", 2)), back)

    def test_words_that_part_only_far_from_the_beginning(self):
        self.assert_parted((("go", 1), ("jump", 29)), (("go", 1), ("jump", 59)))
        self.assert_parted((("go", 1), ("jump", 58)), (("go", 1), ("jump", 57)))
        # All but each 29th stroke, and all.
        self.assert_parted((("go", 28), ("jump", 1)), (("go", 29),))
        self.assert_parted((("go", 28), ("jump", 1)), (("go", 1),))
        self.assert_parted((("go", 28), ("jump", 1)), (("go", 28), ("jump", -27)))
        # The first begins one stroke later.
        self.assert_parted((("jump", 1), ("go", 29)), (("go", 1),))
        self.assert_parted((("go", 1), ("jump", 1), ("go", 28), ("jump", -28)), (("go", 1),))

    def test_as_if_done_very_often(self):
        chance = random.Random(52)
        alike = parted = 0
        for turn in range(1500):
            lines = turn % 4 > 0
            one = some_short_word(chance, 12, lines)
            other = some_short_word(chance, 12, lines)
            if turn % 5 == 0:
                other = (("times", chance.randint(1, 2), one),)
            told = alike_ever(one, other)
            stroke = parting_ever(one, other)
            with self.subTest(one=one, other=other):
                first, second = slowly_ever(one, 60), slowly_ever(other, 60)
                # By so many doings, nothing so near is missing.
                near = {part for part in first ^ second if abs(part[0]) < 30 and abs(part[1]) < 30}
                self.assertIs(told, not near)
                if told:
                    alike += 1
                    self.assertIsNone(stroke)
                else:
                    parted += 1
                    first, second = slowly_ever(one, 150), slowly_ever(other, 150)
                    self.assertLess(abs(stroke[0]) + abs(stroke[1]), 130)
                    self.assertNotEqual(stroke in first, stroke in second)
                for x in range(-20, 20, 3):
                    for part in ((x, 0, 0), (x, 0, 1)):
                        self.assertIs(parts_ever(one, other, part), part in near)
        self.assertTrue(alike > 200 and parted > 200)


class NothingIsKept(unittest.TestCase):
    """Point 1."""

    def test_the_same_is_answered_whatever_was_asked_before(self):
        words = JUST_SHORT + [(), (("go", 1), ("turn", 1)), (("go", 2), ("jump", 1))]
        asked = [
            ever_of,
            lambda word: ever_drawn(word, (2, 0, 0)),
            lambda word: alike_ever(word, SHORT),
            lambda word: parting_ever(word, SHORT),
            lambda word: parts_ever(word, SHORT, (3, 0, 0)),
        ]
        first = [[ask(word) for ask in asked] for word in words]
        with self.assertRaises(NoRoom):
            ever_of(NOT_SHORT[0])
        again = [[ask(word) for ask in asked] for word in reversed(words)]
        self.assertEqual(first, again[::-1])
