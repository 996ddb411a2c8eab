"""The names and arguments that the document tells, and what it promises over the whole program."""

import copy
import importlib
import inspect
import unittest

from penwright.desk import Desk
from penwright.errors import NoWord
from penwright.ever import alike_ever, ever_drawn, ever_of, parting_ever, parts_ever
from penwright.great import box_of, drawn_often
from penwright.notes import shown
from penwright.pictures import kept_by, picture_of
from penwright.rooms import rooms_of, walls_of
from penwright.steps import holds, shortened, stepped, walked
from penwright.trails import deeds_of, has_trails, odd_points, picture_pieces, trails_of
from penwright.words import carried, deeds_done, deeds_in, is_small, pen_after, strokes_drawn
from tests.helper import NO_WORDS, SQUARE, no_two_are_one, some_pictures

INTERFACE = {
    "words": [
        "deeds_in(word)",
        "pen_after(word)",
        "carried(pen, word)",
        "strokes_drawn(word)",
        "deeds_done(word)",
        "is_small(word)",
    ],
    "notes": ["shown(word)", "read(text)"],
    "pictures": [
        "picture_of(word)",
        "moved_picture(picture, x, y)",
        "turned_picture(picture, quarters)",
        "mirrored_picture(picture)",
        "both_pictures(one, other)",
        "common_picture(one, other)",
        "without_picture(one, other)",
        "parting_stroke(one, other)",
        "kept_by(picture)",
        "same_shape(one, other)",
    ],
    "trails": [
        "picture_pieces(picture)",
        "odd_points(picture)",
        "trails_needed(picture)",
        "trails_of(picture)",
        "has_trails(picture, trails)",
        "deeds_of(trails)",
    ],
    "great": ["box_of(word)", "drawn_often(word, stroke)"],
    "ever": [
        "ever_of(word)",
        "ever_drawn(word, stroke)",
        "alike_ever(one, other)",
        "parting_ever(one, other)",
        "parts_ever(one, other, stroke)",
    ],
    "rooms": ["rooms_of(picture)", "room_at(picture, cell)", "walls_of(picture)", "is_ring(picture)", "area_of(picture)"],
    "steps": ["stepped(word, step)", "walked(word, steps)", "holds(one, other, steps)", "shortened(word)"],
    "sheets": ["sheet_of(picture)", "read_sheet(text)"],
}


def module_values():
    """What the files of the package hold at their tops, but for functions and classes."""
    values = {}
    for name in list(INTERFACE) + ["errors", "desk"]:
        module = importlib.import_module(f"penwright.{name}")
        for key, value in vars(module).items():
            if not key.startswith("__") and not inspect.isfunction(value) and not inspect.isclass(value):
                values[name, key] = value
    return values


class Interface(unittest.TestCase):
    def test_functions(self):
        for name, forms in INTERFACE.items():
            module = importlib.import_module(f"penwright.{name}")
            for form in forms:
                with self.subTest(module=name, form=form):
                    function = getattr(module, form.partition("(")[0])
                    self.assertEqual(function.__name__ + str(inspect.signature(function)), form)

    def test_the_desk(self):
        self.assertEqual(str(inspect.signature(Desk)), "()")
        self.assertEqual(str(inspect.signature(Desk().say)), "(line)")
        self.assertEqual(str(inspect.signature(Desk().all_words)), "()")


class WholeProgram(unittest.TestCase):
    """Point 1."""

    def ask_much(self):
        word = (("times", 4, (("go", 3), ("turn", 1))), ("go", 0))
        picture = picture_of(word)
        told = [kept_by(picture), picture_pieces(picture), odd_points(picture), trails_of(picture), rooms_of(picture)]
        told += [walls_of(picture), shortened(word), deeds_of(trails_of(picture)), Desk().all_words()]
        for other in some_pictures(10):
            told += [kept_by(other), picture_pieces(other), odd_points(other), trails_of(other), rooms_of(other)]
        desk = Desk()
        for line in ("keep a go 1", "join b a a", "names", "same a b", "shape a b", "strokes a", "drop a", "x"):
            told.append(desk.say(line))
        told.append(desk.all_words())
        return told

    def test_no_two_lists_or_dicts_are_one(self):
        self.assertTrue(no_two_are_one([self.ask_much(), self.ask_much()]))

    def test_nothing_is_kept_in_the_files(self):
        before = copy.deepcopy(module_values())
        self.ask_much()
        self.assertEqual(module_values(), before)

    def test_trails_and_steps_that_are_handed_in_are_not_changed(self):
        trails = trails_of(SQUARE) + [[(5, 5), (6, 5)]]
        steps = [("part", (), 0, 1), ("out", (), 9)]
        before = copy.deepcopy((trails, steps))
        deeds_of(trails)
        has_trails(SQUARE, trails)
        holds((("go", 3),), (), steps)
        self.assertEqual((trails, steps), before)


class NoWordAheadOfAll(unittest.TestCase):
    """Point 10."""

    def test_in_each_function_that_takes_a_word(self):
        great = (("go", 401),)
        no_stroke = (0, 0, 5)
        no_step = ("out", (), 99)
        asked = [
            deeds_in,
            pen_after,
            lambda word: carried((1, 2, 3), word),
            strokes_drawn,
            deeds_done,
            is_small,
            shown,
            picture_of,
            box_of,
            lambda word: drawn_often(word, no_stroke),
            ever_of,
            lambda word: ever_drawn(word, no_stroke),
            lambda word: alike_ever(word, great),
            lambda word: alike_ever(great, word),
            lambda word: parting_ever(great, word),
            lambda word: parts_ever(word, great, no_stroke),
            lambda word: parts_ever(great, word, no_stroke),
            lambda word: stepped(word, no_step),
            lambda word: walked(word, [no_step]),
            lambda word: holds(word, great, [no_step]),
            lambda word: holds(great, word, [no_step]),
            shortened,
        ]
        for place, ask in enumerate(asked):
            for word in NO_WORDS:
                with self.subTest(asked=place, word=word):
                    with self.assertRaises(NoWord):
                        ask(word)
