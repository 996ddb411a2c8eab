import random
import unittest

from penwright.errors import NoPicture, NoRoom, NoWord
from penwright.pictures import (
    both_pictures,
    common_picture,
    kept_by,
    mirrored_picture,
    moved_picture,
    parting_stroke,
    picture_of,
    same_shape,
    turned_picture,
    without_picture,
)
from tests.helper import (
    GREATEST,
    NO_PICTURES,
    NO_WORDS,
    SQUARE,
    is_picture,
    plain_deeds,
    slowly_drawn,
    some_pictures,
    some_words,
    two_ends,
)

# Pictures by how many ways keep them.
BAR = ((0, 0, 0),)
HOOK = ((0, 0, 0), (0, 0, 1), (1, 0, 0))
ANGLE = ((0, 0, 0), (0, 0, 1))
ZED = ((0, 1, 0), (1, 0, 0), (1, 0, 1))
# Four arms, each with a bend to the left, from (0, 0) on.
ARM = (("go", 1), ("turn", 1), ("go", 1), ("jump", -1), ("turn", -1), ("jump", -1), ("turn", 1))
WHEEL = picture_of((("times", 4, ARM),))
CROSS = ((-1, 0, 0), (0, -1, 1), (0, 0, 0), (0, 0, 1))

FAR = 10**29 + 7

PICTURES = [(), BAR, HOOK, ANGLE, ZED, WHEEL, CROSS, SQUARE, ((FAR, -FAR, 0), (FAR, -FAR, 1))]


def laid_slowly(picture, mirrored, quarters, x, y):
    """A picture mirrored or not, then turned, then moved, by the ends of its strokes."""
    strokes = []
    for stroke in picture:
        ends = []
        for end_x, end_y in two_ends(stroke):
            if mirrored:
                end_x = -end_x
            for _ in range(quarters % 4):
                end_x, end_y = -end_y, end_x
            ends.append((end_x + x, end_y + y))
        low, high = sorted(ends)
        strokes.append(low + (0 if high[0] > low[0] else 1,))
    return tuple(sorted(strokes))


class PictureOfAWord(unittest.TestCase):
    """Point 20."""

    def test_the_pen_leads_every_way(self):
        self.assertEqual(picture_of((("go", 2),)), ((0, 0, 0), (1, 0, 0)))
        self.assertEqual(picture_of((("turn", 1), ("go", 2))), ((0, 0, 1), (0, 1, 1)))
        self.assertEqual(picture_of((("turn", 2), ("go", 2))), ((-2, 0, 0), (-1, 0, 0)))
        self.assertEqual(picture_of((("turn", 3), ("go", 2))), ((0, -2, 1), (0, -1, 1)))
        self.assertEqual(picture_of((("turn", -1), ("go", 1))), ((0, -1, 1),))
        self.assertEqual(picture_of((("jump", 3), ("turn", 1), ("jump", -2), ("go", 1))), ((3, -2, 1),))

    def test_what_draws_nothing(self):
        for word in ((), (("go", 0),), (("jump", 9), ("turn", 1)), (("times", 0, (("go", 3),)),), (("times", 5, ()),)):
            self.assertEqual(picture_of(word), ())

    def test_strokes_drawn_more_than_once_stand_once(self):
        self.assertEqual(picture_of((("go", 2), ("jump", -2), ("go", 3))), ((0, 0, 0), (1, 0, 0), (2, 0, 0)))
        self.assertEqual(picture_of((("go", 1), ("turn", 2), ("go", 1))), ((0, 0, 0),))
        self.assertEqual(picture_of((("times", 100, (("go", 1), ("turn", 1))),)), SQUARE)

    def test_times_within_one_another(self):
        row = (("times", 2, (("times", 4, (("go", 1), ("turn", 1))), ("jump", 3))),)
        self.assertEqual(picture_of(row), SQUARE + moved_picture(SQUARE, 3, 0))
        deep = (("times", 1, (("times", 2, (("times", 1, (("times", 2, (("go", 1), ("turn", 1), ("jump", 1))),)),)),)),)
        self.assertEqual(picture_of(deep), tuple(sorted(set(slowly_drawn(deep)))))

    def test_as_if_drawn_stroke_by_stroke(self):
        small = 0
        for word in some_words(600):
            done = plain_deeds(word)
            strokes = slowly_drawn(word)
            with self.subTest(word=word):
                if len(done) <= 400 and len(strokes) <= 400:
                    small += 1
                    told = picture_of(word)
                    self.assertTrue(is_picture(told))
                    self.assertEqual(told, tuple(sorted(set(strokes))))
                else:
                    with self.assertRaises(NoRoom):
                        picture_of(word)
        self.assertGreater(small, 300)

    def test_just_four_hundred(self):
        for word, strokes in [
            ((("go", 400),), 400),
            ((("go", 399), ("go", 1)), 400),
            ((("times", 400, (("go", 1),)),), 400),
            ((("times", 20, (("times", 10, (("go", 2),)),)),), 400),
            ((("times", 400, (("turn", 1),)),), 0),
            ((("times", 200, (("go", 2), ("turn", 1))),), 8),
            ((("times", 100, (("go", 0), ("jump", 1), ("turn", 1), ("turn", 3))),), 0),
            ((("times", 0, (("go", 401),)), ("go", 400)), 400),
            ((("times", 0, (("go", GREATEST),) * 20),), 0),
            ((("times", 0, (("times", GREATEST, (("go", GREATEST),)),)),), 0),
        ]:
            with self.subTest(word=word):
                self.assertEqual(len(picture_of(word)), strokes)

    def test_what_does_nothing_very_often_is_answered_at_once(self):
        nothing = (("times", GREATEST, (("times", GREATEST, (("times", 0, (("go", 5),)), ("times", GREATEST, ()))),)),)
        self.assertEqual(picture_of(nothing), ())
        self.assertEqual(picture_of((("go", 1),) + nothing + (("go", 1),)), ((0, 0, 0), (1, 0, 0)))
        self.assertEqual(picture_of((("times", 400, nothing + (("turn", 0),)),)), ())

    def test_great_jumps_and_turns(self):
        word = (("jump", GREATEST), ("turn", -GREATEST), ("go", 1), ("jump", -GREATEST), ("go", 1))
        self.assertEqual(picture_of(word), ((GREATEST, 1 - GREATEST, 1), (GREATEST, 0, 1)))

    def test_four_hundred_and_one_is_refused(self):
        for word in [
            (("go", 401),),
            (("go", 400), ("go", 1)),
            (("go", 400), ("jump", -400), ("go", 1)),
            (("times", 401, (("go", 1),)),),
            (("times", 20, (("times", 10, (("go", 2),)),)), ("go", 1)),
            (("times", 401, (("turn", 1),)),),
            (("times", 400, (("jump", 0),)), ("turn", 0)),
            (("times", 200, (("go", 2), ("turn", 1))), ("turn", 1)),
            (("times", 0, (("go", 1),)), ("go", 401)),
            (("times", GREATEST, (("turn", 1),)),),
            (("go", GREATEST),),
        ]:
            with self.subTest(word=word):
                with self.assertRaises(NoRoom):
                    picture_of(word)

    def test_what_is_no_word_is_refused_ahead_of_what_is_not_small(self):
        for word in NO_WORDS:
            with self.subTest(word=word):
                with self.assertRaises(NoWord):
                    picture_of(word)
        for word in ((("go", 401), ("go", -1)), (("times", 999, (("go", 9), ("stay", 1))),), (("go", 401),) * 31):
            with self.subTest(word=word):
                with self.assertRaises(NoWord):
                    picture_of(word)


class TwoPictures(unittest.TestCase):
    """Point 20."""

    def test_pictures_without_strokes(self):
        self.assertEqual(both_pictures((), ()), ())
        self.assertEqual(both_pictures(HOOK, ()), HOOK)
        self.assertEqual(both_pictures((), HOOK), HOOK)
        self.assertEqual(common_picture((), ()), ())
        self.assertEqual(common_picture(HOOK, ()), ())
        self.assertEqual(common_picture((), HOOK), ())
        self.assertEqual(without_picture((), ()), ())
        self.assertEqual(without_picture(HOOK, ()), HOOK)
        self.assertEqual(without_picture((), HOOK), ())
        self.assertIsNone(parting_stroke((), ()))
        self.assertEqual(parting_stroke(HOOK, ()), (0, 0, 0))
        self.assertEqual(parting_stroke((), HOOK), (0, 0, 0))

    def test_the_same_twice(self):
        for picture in PICTURES:
            self.assertEqual(both_pictures(picture, picture), picture)
            self.assertEqual(common_picture(picture, picture), picture)
            self.assertEqual(without_picture(picture, picture), ())
            self.assertIsNone(parting_stroke(picture, picture))

    def test_one_within_the_other(self):
        self.assertEqual(both_pictures(ANGLE, SQUARE), SQUARE)
        self.assertEqual(common_picture(ANGLE, SQUARE), ANGLE)
        self.assertEqual(common_picture(SQUARE, ANGLE), ANGLE)
        self.assertEqual(without_picture(ANGLE, SQUARE), ())
        self.assertEqual(without_picture(SQUARE, ANGLE), ((0, 1, 0), (1, 0, 1)))
        self.assertEqual(parting_stroke(ANGLE, SQUARE), (0, 1, 0))
        self.assertEqual(parting_stroke(SQUARE, ANGLE), (0, 1, 0))

    def test_unlike_ones(self):
        one = ((-5, 0, 0), (0, 0, 0), (3, 3, 1))
        other = ((-5, 0, 0), (-5, 0, 1), (0, 0, 1), (3, 3, 1))
        self.assertEqual(both_pictures(one, other), ((-5, 0, 0), (-5, 0, 1), (0, 0, 0), (0, 0, 1), (3, 3, 1)))
        self.assertEqual(common_picture(one, other), ((-5, 0, 0), (3, 3, 1)))
        self.assertEqual(without_picture(one, other), ((0, 0, 0),))
        self.assertEqual(without_picture(other, one), ((-5, 0, 1), (0, 0, 1)))
        self.assertEqual(parting_stroke(one, other), (-5, 0, 1))
        self.assertEqual(parting_stroke(other, one), (-5, 0, 1))

    def test_many_pairs(self):
        pictures = some_pictures(40)
        for one in pictures:
            for other in pictures:
                both = [stroke for stroke in one] + [stroke for stroke in other if stroke not in one]
                common = [stroke for stroke in one if stroke in other]
                rest = [stroke for stroke in one if stroke not in other]
                parting = [stroke for stroke in both if stroke not in common]
                for told, asked in [
                    (both_pictures(one, other), both),
                    (common_picture(one, other), common),
                    (without_picture(one, other), rest),
                ]:
                    self.assertTrue(is_picture(told))
                    self.assertEqual(told, tuple(sorted(asked)))
                self.assertEqual(parting_stroke(one, other), min(parting) if parting else None)


class WhatIsNoPicture(unittest.TestCase):
    """Point 20."""

    def test_it_is_refused(self):
        asked = [
            lambda picture: moved_picture(picture, 0, 0),
            lambda picture: moved_picture(picture, 3, -4),
            lambda picture: turned_picture(picture, 0),
            lambda picture: turned_picture(picture, 1),
            mirrored_picture,
            kept_by,
        ]
        for ask in (both_pictures, common_picture, without_picture, parting_stroke, same_shape):
            for other in ((), SQUARE, ((5, 5, 0),)):
                asked.append(lambda picture, ask=ask, other=other: ask(picture, other))
                asked.append(lambda picture, ask=ask, other=other: ask(other, picture))
            asked.append(lambda picture, ask=ask: ask(picture, picture))
        for place, ask in enumerate(asked):
            for picture in NO_PICTURES:
                with self.subTest(asked=place, picture=picture):
                    with self.assertRaises(NoPicture):
                        ask(picture)


class MovedTurnedMirrored(unittest.TestCase):
    """Point 21."""

    def test_moved(self):
        self.assertEqual(moved_picture((), 3, 4), ())
        self.assertEqual(moved_picture(ANGLE, 0, 0), ANGLE)
        self.assertEqual(moved_picture(ANGLE, 3, -4), ((3, -4, 0), (3, -4, 1)))
        self.assertEqual(moved_picture(ANGLE, FAR, -FAR), ((FAR, -FAR, 0), (FAR, -FAR, 1)))

    def test_turned_by_one_quarter(self):
        self.assertEqual(turned_picture(((2, 1, 0),), 1), ((-1, 2, 1),))
        self.assertEqual(turned_picture(((2, 1, 1),), 1), ((-2, 2, 0),))
        self.assertEqual(turned_picture(((0, 0, 0), (0, 0, 1)), 1), ((-1, 0, 0), (0, 0, 1)))

    def test_turned_by_more(self):
        strokes = ((2, 1, 0), (2, 1, 1))
        self.assertEqual(turned_picture(strokes, 0), strokes)
        self.assertEqual(turned_picture(strokes, 2), ((-3, -1, 0), (-2, -2, 1)))
        self.assertEqual(turned_picture(strokes, 3), ((1, -3, 1), (1, -2, 0)))

    def test_mirrored(self):
        self.assertEqual(mirrored_picture(()), ())
        self.assertEqual(mirrored_picture(((2, 1, 0),)), ((-3, 1, 0),))
        self.assertEqual(mirrored_picture(((2, 1, 1),)), ((-2, 1, 1),))
        self.assertEqual(mirrored_picture(((0, 0, 0), (0, 0, 1), (5, 5, 1))), ((-5, 5, 1), (-1, 0, 0), (0, 0, 1)))

    def test_by_the_ends_of_the_strokes(self):
        many = 10**30 - 10
        for picture in PICTURES + some_pictures(30):
            for x, y in [(0, 0), (1, -1), (-7, 3), (10**30 - 1, -(10**30) + 1)]:
                self.assert_told(moved_picture(picture, x, y), laid_slowly(picture, 0, 0, x, y))
            for quarters in list(range(-9, 10)) + [many, many + 1, many + 2, many + 3, -many, -many - 1]:
                self.assert_told(turned_picture(picture, quarters), laid_slowly(picture, 0, quarters % 4, 0, 0))
            self.assert_told(mirrored_picture(picture), laid_slowly(picture, 1, 0, 0, 0))
            self.assertEqual(mirrored_picture(mirrored_picture(picture)), picture)

    def assert_told(self, told, picture):
        self.assertTrue(is_picture(told))
        self.assertEqual(told, picture)

    def test_as_the_turned_pen_draws(self):
        for word in some_words(150):
            if len(plain_deeds(word)) < 390 and len(slowly_drawn(word)) < 390:
                for quarters in range(-4, 5):
                    told = turned_picture(picture_of(word), quarters)
                    self.assertEqual(told, picture_of((("turn", quarters),) + word))


class WaysThatKeepAPicture(unittest.TestCase):
    """Point 22."""

    def test_without_strokes(self):
        ways = [(mirrored, quarters, 0, 0) for mirrored in (0, 1) for quarters in range(4)]
        self.assertEqual(kept_by(()), ways)

    def test_one_way(self):
        self.assertEqual(kept_by(HOOK), [(0, 0, 0, 0)])

    def test_two_ways(self):
        self.assertEqual(kept_by(ANGLE), [(0, 0, 0, 0), (1, 3, 0, 0)])
        self.assertEqual(kept_by(ZED), [(0, 0, 0, 0), (0, 2, 2, 1)])

    def test_four_ways(self):
        self.assertEqual(kept_by(BAR), [(0, 0, 0, 0), (0, 2, 1, 0), (1, 0, 1, 0), (1, 2, 0, 0)])
        self.assertEqual(kept_by(WHEEL), [(0, 0, 0, 0), (0, 1, 0, 0), (0, 2, 0, 0), (0, 3, 0, 0)])

    def test_eight_ways(self):
        ways = [(mirrored, quarters, 0, 0) for mirrored in (0, 1) for quarters in range(4)]
        self.assertEqual(kept_by(CROSS), ways)
        plain = [(0, 0, 0, 0), (0, 1, 1, 0), (0, 2, 1, 1), (0, 3, 0, 1)]
        mirrored = [(1, 0, 1, 0), (1, 1, 1, 1), (1, 2, 0, 1), (1, 3, 0, 0)]
        self.assertEqual(kept_by(SQUARE), plain + mirrored)

    def test_far_from_nought(self):
        for picture, number in [(BAR, 4), (HOOK, 1), (ANGLE, 2), (ZED, 2), (WHEEL, 4), (CROSS, 8), (SQUARE, 8)]:
            far = moved_picture(picture, FAR, -3 * FAR)
            self.assert_all_ways(far)
            self.assertEqual(len(kept_by(far)), number)
        self.assertEqual(kept_by(((FAR, 5, 1),))[1], (0, 2, 2 * FAR, 11))

    def test_many_pictures(self):
        for picture in some_pictures(150):
            self.assert_all_ways(picture)
            if picture:
                turned = moved_picture(turned_picture(picture, 2), 3, 1)
                self.assert_all_ways(both_pictures(picture, turned))
                self.assert_all_ways(both_pictures(picture, mirrored_picture(picture)))

    def assert_all_ways(self, picture):
        told = kept_by(picture)
        self.assertIs(type(told), list)
        asked = []
        for mirrored in (0, 1):
            for quarters in range(4):
                laid = laid_slowly(picture, mirrored, quarters, 0, 0)
                shift = (picture[0][0] - laid[0][0], picture[0][1] - laid[0][1]) if picture else (0, 0)
                if laid_slowly(laid, 0, 0, shift[0], shift[1]) == picture:
                    asked.append((mirrored, quarters) + shift)
        self.assertEqual(told, asked)
        self.assertEqual(told, sorted(told))

    def test_each_time_a_new_list(self):
        for picture in ((), SQUARE):
            first = kept_by(picture)
            first.clear()
            self.assertEqual(len(kept_by(picture)), 8)


class OneShape(unittest.TestCase):
    """Point 23."""

    def test_mirrored_turned_and_moved(self):
        for picture in PICTURES + some_pictures(20):
            for mirrored in (0, 1):
                for quarters in range(4):
                    for x, y in [(0, 0), (-3, 8), (FAR, -FAR)]:
                        other = laid_slowly(picture, mirrored, quarters, x, y)
                        self.assertIs(same_shape(picture, other), True)
                        self.assertIs(same_shape(other, picture), True)

    def test_a_stroke_more_or_less(self):
        for picture in PICTURES[1:]:
            more = both_pictures(picture, ((50, 50, 1),))
            self.assertIs(same_shape(picture, more), False)
            self.assertIs(same_shape(more, picture), False)
            self.assertIs(same_shape(picture, picture[1:]), False)
            self.assertIs(same_shape(picture[:-1], picture), False)

    def test_a_stroke_moved(self):
        for picture in (HOOK, ANGLE, ZED, WHEEL, CROSS, SQUARE):
            for place in range(len(picture)):
                rest = picture[:place] + picture[place + 1 :]
                other = both_pictures(rest, moved_picture((picture[place],), 40, 30))
                self.assertIs(same_shape(picture, other), False)
                self.assertIs(same_shape(other, picture), False)

    def test_as_many_strokes_of_another_shape(self):
        self.assertIs(same_shape(((0, 0, 0), (1, 0, 0)), ANGLE), False)
        self.assertIs(same_shape(((0, 0, 0), (1, 0, 0)), ((0, 0, 0), (0, 1, 0))), False)
        self.assertIs(same_shape(HOOK, ZED), False)

    def test_without_strokes(self):
        self.assertIs(same_shape((), ()), True)
        self.assertIs(same_shape((), BAR), False)
        self.assertIs(same_shape(BAR, ()), False)

    def test_a_thousand_strokes(self):
        chance = random.Random(23)
        places = [(x, y, way) for x in range(30) for y in range(30) for way in (0, 1)]
        picture = tuple(sorted(chance.sample(places, 1000)))
        other = laid_slowly(picture, 1, 3, FAR, 5)
        self.assertIs(same_shape(picture, other), True)
        self.assertEqual(kept_by(picture), [(0, 0, 0, 0)])
        spoilt = both_pictures(without_picture(other, other[500:501]), ((0, 0, 0),))
        self.assertIs(same_shape(picture, spoilt), False)


class NothingIsKept(unittest.TestCase):
    """Point 1."""

    def test_the_same_is_answered_whatever_was_asked_before(self):
        pictures = PICTURES + some_pictures(10)
        asked = [
            lambda picture: moved_picture(picture, 1, 2),
            lambda picture: turned_picture(picture, 3),
            mirrored_picture,
            kept_by,
            lambda picture: both_pictures(picture, SQUARE),
            lambda picture: common_picture(picture, SQUARE),
            lambda picture: without_picture(picture, SQUARE),
            lambda picture: parting_stroke(picture, SQUARE),
            lambda picture: same_shape(picture, SQUARE),
        ]
        first = [[ask(picture) for ask in asked] for picture in pictures]
        with self.assertRaises(NoPicture):
            kept_by(NO_PICTURES[0])
        again = [[ask(picture) for ask in asked] for picture in reversed(pictures)]
        self.assertEqual(first, again[::-1])
