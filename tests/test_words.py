import unittest

from penwright.errors import NoWord
from penwright.words import carried, deeds_done, deeds_in, is_small, pen_after, strokes_drawn
from tests.helper import (
    GREATEST,
    NO_WORDS,
    WORDS,
    count,
    nested,
    plain_deeds,
    slowly_carried,
    some_words,
)

PENS = [(0, 0, 0), (3, -4, 1), (-7, 2, 2), (10**20, -(10**20), 3)]


class WhatIsAWord(unittest.TestCase):
    """Point 10."""

    def test_words_are_taken(self):
        for word in WORDS:
            with self.subTest(word=word):
                self.assertEqual(deeds_in(word), count(word))
                pen_after(word)
                carried((1, 2, 3), word)
                strokes_drawn(word)
                deeds_done(word)
                is_small(word)

    def test_what_is_no_word_is_refused(self):
        asked = [
            deeds_in,
            pen_after,
            lambda word: carried((3, -4, 1), word),
            strokes_drawn,
            deeds_done,
            is_small,
        ]
        for place, ask in enumerate(asked):
            for word in NO_WORDS:
                with self.subTest(asked=place, word=word):
                    with self.assertRaises(NoWord):
                        ask(word)

    def test_deeds_are_counted_with_those_within(self):
        self.assertEqual(deeds_in(()), 0)
        self.assertEqual(deeds_in((("go", 5),)), 1)
        self.assertEqual(deeds_in((("times", 9, ()),)), 1)
        self.assertEqual(deeds_in((("times", 0, (("go", 1), ("turn", 1))),)), 3)
        self.assertEqual(deeds_in((("go", 1),) * 30), 30)
        self.assertEqual(deeds_in(nested(4, (("go", 1),) * 26)), 30)
        self.assertEqual(deeds_in((("jump", 1), ("times", 2, (("times", 3, (("go", 1),)), ("go", 1))))), 5)

    def test_a_deed_in_the_place_of_a_word_is_refused(self):
        for word in (("go", 1), (("times", 2, ("go", 1)),), (1,), (("times", 2, (1, 2)),)):
            with self.subTest(word=word):
                with self.assertRaises(NoWord):
                    deeds_in(word)

    def test_a_tuple_of_great_depth_or_length_is_refused(self):
        wide = (("go", 1),)
        for _ in range(40):
            wide = (("times", 2, wide),) * 40
        for word in (nested(5000, ()), (("go", 1),) * 100000, wide):
            with self.assertRaises(NoWord):
                deeds_in(word)


class WhereThePenComes(unittest.TestCase):
    """Point 11."""

    def test_go_and_jump_lead_ahead(self):
        for kind in ("go", "jump"):
            self.assertEqual(pen_after(((kind, 0),)), (0, 0, 0))
            self.assertEqual(pen_after(((kind, 5),)), (5, 0, 0))
            self.assertEqual(carried((2, 3, 0), ((kind, 5),)), (7, 3, 0))
            self.assertEqual(carried((2, 3, 1), ((kind, 5),)), (2, 8, 1))
            self.assertEqual(carried((2, 3, 2), ((kind, 5),)), (-3, 3, 2))
            self.assertEqual(carried((2, 3, 3), ((kind, 5),)), (2, -2, 3))

    def test_jump_below_nought_leads_backwards(self):
        self.assertEqual(carried((2, 3, 0), (("jump", -5),)), (-3, 3, 0))
        self.assertEqual(carried((2, 3, 1), (("jump", -5),)), (2, -2, 1))
        self.assertEqual(carried((2, 3, 2), (("jump", -5),)), (7, 3, 2))
        self.assertEqual(carried((2, 3, 3), (("jump", -5),)), (2, 8, 3))

    def test_turn_turns_to_the_left_and_below_nought_to_the_right(self):
        for heading in range(4):
            for quarters in list(range(-9, 10)) + [GREATEST, -GREATEST]:
                with self.subTest(heading=heading, quarters=quarters):
                    pen = carried((2, 3, heading), (("turn", quarters),))
                    self.assertEqual(pen, (2, 3, (heading + quarters) % 4))
        self.assertEqual(pen_after((("turn", 1), ("go", 2))), (0, 2, 1))
        self.assertEqual(pen_after((("turn", -1), ("go", 2))), (0, -2, 3))

    def test_a_word_is_done_deed_by_deed(self):
        self.assertEqual(pen_after((("go", 3), ("turn", 1), ("go", 2), ("turn", 1), ("jump", 1))), (2, 2, 2))
        self.assertEqual(pen_after((("turn", 1), ("go", 3))), (0, 3, 1))
        self.assertEqual(pen_after((("go", 3), ("turn", 1))), (3, 0, 1))

    def test_times_does_its_word_so_often(self):
        step = (("go", 2), ("turn", 1), ("go", 1), ("turn", -1))
        self.assertEqual(pen_after((("times", 0, step),)), (0, 0, 0))
        self.assertEqual(pen_after((("times", 1, step),)), (2, 1, 0))
        self.assertEqual(pen_after((("times", 7, step),)), (14, 7, 0))
        corner = (("go", 2), ("turn", 1))
        ends = [(0, 0, 0), (2, 0, 1), (2, 2, 2), (0, 2, 3), (0, 0, 0), (2, 0, 1)]
        for often, end in enumerate(ends):
            self.assertEqual(pen_after((("times", often, corner),)), end)
        self.assertEqual(carried((5, 5, 1), (("times", 3, corner),)), (3, 5, 0))
        self.assertEqual(pen_after((("times", 3, (("go", 2), ("turn", 2))),)), (2, 0, 2))
        self.assertEqual(pen_after((("times", 9, ()),)), (0, 0, 0))

    def test_times_within_one_another(self):
        word = (("times", 3, (("times", 2, (("go", 1), ("turn", 1))), ("jump", -5), ("turn", 2))),)
        for pen in PENS:
            self.assertEqual(carried(pen, word), slowly_carried(pen, word))

    def test_as_if_done_point_by_point(self):
        for word in some_words(400):
            for pen in PENS:
                with self.subTest(word=word, pen=pen):
                    self.assertEqual(carried(pen, word), slowly_carried(pen, word))
            self.assertEqual(pen_after(word), carried((0, 0, 0), word))

    def test_numbers_of_twenty_figures(self):
        self.assertEqual(pen_after((("go", GREATEST), ("turn", 1), ("jump", -GREATEST))), (GREATEST, -GREATEST, 1))
        pen = (GREATEST, -GREATEST, 2)
        self.assertEqual(carried(pen, (("go", GREATEST),)), (0, -GREATEST, 2))
        self.assertEqual(carried(pen, (("jump", -GREATEST),)), (2 * GREATEST, -GREATEST, 2))

    def test_great_times_are_answered_at_once(self):
        word = (("go", GREATEST),)
        for _ in range(4):
            word = (("times", GREATEST, word),)
        self.assertEqual(pen_after(word), (GREATEST**5, 0, 0))
        self.assertEqual(carried((1, 1, 3), word), (1, 1 - GREATEST**5, 3))
        # 10 ** 20 - 1 doings are three more than a number that 4 goes into.
        turning = (("times", GREATEST, (("go", 2), ("turn", 1))),)
        self.assertEqual(pen_after(turning), (0, 2, 3))
        self.assertEqual(pen_after((("times", GREATEST, turning),)), slowly_carried((0, 0, 0), 9 * (("go", 2), ("turn", 1))))
        slanting = (("times", GREATEST, (("go", 1), ("turn", 1), ("jump", -1), ("turn", 3))),)
        self.assertEqual(pen_after((("times", GREATEST, slanting),)), (GREATEST**2, -(GREATEST**2), 0))


class HowMuchItDraws(unittest.TestCase):
    """Point 12."""

    def test_strokes_are_counted_as_often_as_they_are_drawn(self):
        self.assertEqual(strokes_drawn(()), 0)
        self.assertEqual(strokes_drawn((("go", 5), ("jump", 7), ("turn", 9), ("go", 0))), 5)
        self.assertEqual(strokes_drawn((("go", 3), ("jump", -3), ("go", 3))), 6)
        self.assertEqual(strokes_drawn((("times", 8, (("go", 2), ("turn", 1))),)), 16)
        self.assertEqual(strokes_drawn((("times", 0, (("go", 2),)), ("go", 1))), 1)
        self.assertEqual(strokes_drawn((("times", 3, (("go", 1), ("times", 4, (("go", 5),)))),)), 63)

    def test_deeds_are_counted_as_often_as_they_are_done(self):
        self.assertEqual(deeds_done(()), 0)
        self.assertEqual(deeds_done((("go", 5), ("jump", 7), ("turn", 9), ("go", 0))), 4)
        self.assertEqual(deeds_done((("times", 8, (("go", 2), ("turn", 1))),)), 16)
        self.assertEqual(deeds_done((("times", 8, ()),)), 0)
        self.assertEqual(deeds_done((("times", 0, (("go", 2),)), ("go", 1))), 1)
        self.assertEqual(deeds_done((("times", 3, (("go", 1), ("times", 4, (("go", 5),)))),)), 15)

    def test_as_if_counted_one_by_one(self):
        for word in some_words(400):
            with self.subTest(word=word):
                done = plain_deeds(word)
                strokes = sum(number for kind, number in done if kind == "go")
                self.assertEqual(deeds_done(word), len(done))
                self.assertEqual(strokes_drawn(word), strokes)
                self.assertIs(is_small(word), len(done) <= 400 and strokes <= 400)

    def test_small_is_up_to_four_hundred_of_either(self):
        two = (("times", 200, (("go", 2), ("turn", 1))),)
        small = [
            (),
            (("go", 400),),
            (("times", 400, (("turn", 1),)),),
            (("times", 400, (("go", 0),)),),
            (("times", 20, (("go", 20),)),),
            two,
            (("jump", GREATEST), ("turn", -GREATEST)),
            (("times", GREATEST, ()),),
            (("times", 0, (("go", GREATEST),)),),
            (("times", 20, (("times", 20, (("go", 1),)),)),),
        ]
        great = [
            (("go", 401),),
            (("go", 400), ("go", 1)),
            (("times", 401, (("turn", 1),)),),
            (("times", 401, (("go", 0),)),),
            (("times", 400, (("jump", 1),)), ("turn", 0)),
            two + (("turn", 1),),
            (("times", 199, (("go", 2), ("turn", 1))), ("go", 3)),
            (("go", GREATEST),),
            (("times", GREATEST, (("turn", 1),)),),
        ]
        for word in small:
            with self.subTest(word=word):
                self.assertIs(is_small(word), True)
        for word in great:
            with self.subTest(word=word):
                self.assertIs(is_small(word), False)

    def test_great_numbers(self):
        word = (("go", GREATEST), ("turn", 1))
        for _ in range(4):
            word = (("times", GREATEST, word),)
        self.assertEqual(strokes_drawn(word), GREATEST**5)
        self.assertEqual(deeds_done(word), 2 * GREATEST**4)
        self.assertIs(is_small(word), False)


class NothingIsKept(unittest.TestCase):
    """Point 1."""

    def test_the_same_is_answered_whatever_was_asked_before(self):
        words = WORDS + some_words(20)
        asked = [deeds_in, pen_after, lambda word: carried((3, -4, 1), word), strokes_drawn, deeds_done, is_small]
        first = [[ask(word) for ask in asked] for word in words]
        with self.assertRaises(NoWord):
            deeds_in(NO_WORDS[0])
        again = [[ask(word) for ask in asked] for word in reversed(words)]
        self.assertEqual(first, again[::-1])

    def test_pens_are_tuples_of_whole_numbers(self):
        for word in WORDS:
            for pen in (pen_after(word), carried((3, -4, 1), word)):
                with self.subTest(word=word):
                    self.assertIs(type(pen), tuple)
                    self.assertEqual([type(number) for number in pen], [int, int, int])
                    self.assertIn(pen[2], (0, 1, 2, 3))
