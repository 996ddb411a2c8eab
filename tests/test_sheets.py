import random
import unittest

from penwright.errors import BadNote, NoPicture, NoRoom
from penwright.pictures import both_pictures, moved_picture
from penwright.sheets import read_sheet, sheet_of
from tests.helper import GREATEST, NO_PICTURES, SQUARE, block, is_picture, outline, some_pictures, two_ends

SHEETS = [
    ((), ["none"]),
    (((0, 0, 0),), ["0 0", "+-+"]),
    (((0, 0, 1),), ["0 0", "+", "|", "+"]),
    (((-3, 7, 0),), ["-3 7", "+-+"]),
    (((4, -12, 1),), ["4 -12", "+", "|", "+"]),
    (SQUARE, ["0 0", "+-+", "|.|", "+-+"]),
    (((0, 0, 0), (0, 0, 1)), ["0 0", "+..", "|..", "+-+"]),
    (((0, 1, 0), (1, 0, 1)), ["0 0", "+-+", "..|", "..+"]),
    (((0, 0, 0), (2, 0, 0)), ["0 0", "+-+.+-+"]),
    (((0, 0, 0), (3, 0, 0)), ["0 0", "+-+...+-+"]),
    (((0, 0, 1), (0, 2, 1)), ["0 0", "+", "|", "+", ".", "+", "|", "+"]),
    (((0, 0, 0), (5, 1, 1)), ["0 0", "..........+", "..........|", "..........+", "...........", "+-+........"]),
    # points at which strokes cross
    (
        ((-1, 0, 0), (0, -1, 1), (0, 0, 0), (0, 0, 1)),
        ["-1 -1", "..+..", "..|..", "+-+-+", "..|..", "..+.."],
    ),
    (
        ((0, 0, 1), (0, 1, 0), (0, 1, 1), (1, 1, 0)),
        ["0 0", "+....", "|....", "+-+-+", "|....", "+...."],
    ),
    (outline([(0, 0), (1, 1)]), ["0 0", "..+-+", "..|.|", "+-+-+", "|.|..", "+-+.."]),
    # numbers of twenty figures
    (
        ((-GREATEST, GREATEST, 0), (-GREATEST, GREATEST, 1)),
        ["-99999999999999999999 99999999999999999999", "+..", "|..", "+-+"],
    ),
    (((GREATEST, -GREATEST, 1),), ["99999999999999999999 -99999999999999999999", "+", "|", "+"]),
    (((10**30 - 1, 1 - 10**30, 0),), ["9" * 30 + " -" + "9" * 30, "+-+"]),
]


def slow_sheet(picture):
    """The sheet of a picture, sign by sign."""
    if not picture:
        return "none"
    points = {point for stroke in picture for point in two_ends(stroke)}
    least_x, greatest_x = min(x for x, _ in points), max(x for x, _ in points)
    least_y, greatest_y = min(y for _, y in points), max(y for _, y in points)
    lines = [f"{least_x} {least_y}"]
    for y in range(greatest_y, least_y - 1, -1):
        row = ""
        below = ""
        for x in range(least_x, greatest_x + 1):
            row += "+" if (x, y) in points else "."
            row += "-" if (x, y, 0) in picture else "."
            below += "|." if (x, y - 1, 1) in picture else ".."
        lines += [row[:-1], below[:-1]]
    return "\n".join(lines[:-1])


class Sheets(unittest.TestCase):
    """Point 80."""

    def test_sheets(self):
        for picture, lines in SHEETS:
            with self.subTest(lines=lines):
                self.assertEqual(sheet_of(picture), "\n".join(lines))
                self.assertEqual(read_sheet("\n".join(lines)), picture)

    def test_many_pictures(self):
        chance = random.Random(80)
        for picture in some_pictures(200):
            x, y = chance.choice([(0, 0), (-7, 4), (GREATEST, -GREATEST), (-(10**29), 12)])
            moved = moved_picture(picture, x, y)
            text = sheet_of(moved)
            self.assertIs(type(text), str)
            self.assertEqual(text, slow_sheet(moved))
            told = read_sheet(text)
            self.assertTrue(is_picture(told))
            self.assertEqual(told, moved)


def picture_of_points(wide, high):
    """Two strokes, so many points from the least to the greatest x, and y."""
    if high == 1:
        return ((0, 0, 0), (wide - 2, 0, 0))
    if wide == 1:
        return ((0, 0, 1), (0, high - 2, 1))
    return ((0, 0, 0), (wide - 1, high - 2, 1))


class Size(unittest.TestCase):
    """Point 81."""

    def test_just_forty_points(self):
        for wide, high in [(40, 40), (40, 1), (1, 40), (40, 2), (2, 40), (39, 40)]:
            for x, y in [(0, 0), (-5, 13), (GREATEST, -GREATEST)]:
                picture = moved_picture(picture_of_points(wide, high), x, y)
                text = sheet_of(picture)
                self.assertEqual(text, slow_sheet(picture))
                lines = text.split("\n")
                self.assertEqual(len(lines), 2 * high)
                self.assertEqual({len(line) for line in lines[1:]}, {2 * wide - 1})
                self.assertEqual(read_sheet(text), picture)

    def test_just_forty_points_full_of_strokes(self):
        cells = [(x, y) for x, y in block(39, 39, 10**30 - 40, -(10**30) + 1) if (x + y) % 2]
        picture = outline(cells)
        text = sheet_of(picture)
        self.assertLess(len(text), 8000)
        self.assertEqual(text, slow_sheet(picture))
        self.assertEqual(read_sheet(text), picture)

    def test_forty_one_points(self):
        sizes = [(41, 40), (40, 41), (41, 41), (41, 1), (1, 41), (41, 2), (2, 41), (GREATEST, 1), (1, GREATEST)]
        for wide, high in sizes:
            for x, y in [(0, 0), (-5, 13), (GREATEST, -GREATEST)]:
                with self.subTest(wide=wide, high=high, x=x):
                    picture = moved_picture(picture_of_points(wide, high), x, y)
                    with self.assertRaises(NoRoom):
                        sheet_of(picture)

    def test_forty_one_points_read(self):
        for wide, high in [(41, 40), (40, 41), (41, 41), (41, 1), (1, 41), (41, 2), (2, 41), (60, 3)]:
            with self.subTest(wide=wide, high=high):
                with self.assertRaises(BadNote):
                    read_sheet(slow_sheet(picture_of_points(wide, high)))


BAD_TEXTS = [
    "", " ", "\n", "None", "none ", " none", "none\n", "\nnone", "none\nnone", "nothing", ".", "+", "0 0", "0 0\n",
    # points without strokes, dots alone
    "0 0\n+", "0 0\n.", "0 0\n...", "0 0\n+.+", "0 0\n+\n.\n+", "0 0\n...\n...\n...", "0 0\n+-+.+", "0 0\n+.+-+",
    "0 0\n+-+\n...\n+..", "0 0\n+-+\n...\n...\n...\n+-+\n+..",
    # a stroke without a point at its ends
    "0 0\n+-.", "0 0\n.-+", "0 0\n.-.", "0 0\n-", "0 0\n+-", "0 0\n-+", "0 0\n|", "0 0\n+\n|", "0 0\n|\n+",
    "0 0\n+\n|\n.", "0 0\n.\n|\n+", "0 0\n.\n|\n.", "0 0\n+-+-.",
    # signs at places where they don't stand
    "0 0\n+|+", "0 0\n+\n-\n+", "0 0\n+++", "0 0\n---", "0 0\n+-+\n|+|\n+-+", "0 0\n+-+\n|-|\n+-+", "0 0\n+-+\n|||\n+-+",
    "0 0\n+-+\n|.+\n+-+", "0 0\n+-|\n|.|\n+-+", "0 0\n+--\n|.|\n+-+", "0 0\n+-+\n-.-\n+-+", "0 0\n|-|\n|.|\n+-+",
    # other signs
    "0 0\n+-+\n| |\n+-+", "0 0\n+ +", "0 0\nx-x", "0 0\n+=+", "0 0\n+_+", "0 0\n+-+\n|,|\n+-+", "0 0\n*-*", "0 0\n+~+",
    # rows and columns too many
    "0 0\n+-+.", "0 0\n+-+..", "0 0\n.+-+", "0 0\n..+-+", "0 0\n+-+\n...\n...", "0 0\n...\n...\n+-+", "0 0\n+-+\n...",
    "0 0\n...\n+-+", "0 0\n+-+\n", "0 0\n\n+-+", "\n0 0\n+-+", "0 0\n+-+\n\n", "0 0\n+\n|\n+\n.", "0 0\n+\n|\n+\n.\n.",
    "0 0\n+.\n|.\n+.", "0 0\n+..\n|..\n+..", "0 0\n..+\n..|\n..+", "0 0\n.\n.\n+\n|\n+",
    # lines of unlike length
    "0 0\n+\n|\n+-+", "0 0\n+..\n|\n+-+", "0 0\n+-+\n|.|\n+-", "0 0\n+-+\n|.|.\n+-+", "0 0\n+-+\n|.\n+-+", "0 0\n+.\n|..\n+-+",
    # the first line
    "+-+", "0\n+-+", "0 0 0\n+-+", "0  0\n+-+", " 0 0\n+-+", "0 0 \n+-+", "0\n0\n+-+", "00\n+-+", "0,0\n+-+", "0, 0\n+-+",
    "(0 0)\n+-+", "x y\n+-+", "0 y\n+-+", "- 0\n+-+", "0 -\n+-+", "0 --1\n+-+", "0 1.0\n+-+", "0 1e1\n+-+", "0x1 0\n+-+",
    " 0\n+-+", "0 \n+-+", " \n+-+", "1_0 0\n+-+", "0 1_0\n+-+", "none\n+-+", "0 none\n+-+", "0 0x\n+-+", "\t0 0\n+-+",
    # needless noughts and signs
    "00 0\n+-+", "0 00\n+-+", "01 0\n+-+", "0 01\n+-+", "-01 0\n+-+", "0 -01\n+-+", "-0 0\n+-+", "0 -0\n+-+", "+0 0\n+-+",
    "0 +0\n+-+", "+1 0\n+-+", "0 +1\n+-+", "-00 0\n+-+", "000 000\n+-+", "+-1 0\n+-+", "-+1 0\n+-+",
]


class BadSheets(unittest.TestCase):
    """Point 81."""

    def test_texts_that_show_no_picture(self):
        for text in BAD_TEXTS:
            with self.subTest(text=text):
                with self.assertRaises(BadNote):
                    read_sheet(text)

    def test_long_numbers_are_read(self):
        for number in (10**20, 10**29, 10**30 - 1, -(10**30) + 1, 10**30, -(10**31)):
            self.assertEqual(read_sheet(f"{number} {-number}\n+-+"), ((number, -number, 0),))

    def test_sheets_that_are_spoilt(self):
        chance = random.Random(81)
        spoilt = 0
        pictures = [picture for picture, _ in SHEETS] + some_pictures(40)
        for picture in pictures:
            for text in self.spoilt_texts(sheet_of(picture), chance):
                told = self.told_or_refused(text)
                if told is None:
                    spoilt += 1
                else:
                    self.assertEqual(slow_sheet(told), text)
        self.assertGreater(spoilt, 5000)

    def told_or_refused(self, text):
        try:
            return read_sheet(text)
        except BadNote:
            return None

    def spoilt_texts(self, text, chance):
        signs = "+-|. 01\nx"
        texts = [text[:place] + text[place + 1 :] for place in range(len(text))]
        for place in range(len(text) + 1):
            texts.append(text[:place] + chance.choice(signs) + text[place:])
            texts.append(text[:place] + chance.choice(signs) + text[place + 1 :])
        lines = text.split("\n")
        for place in range(len(lines)):
            texts.append("\n".join(lines[:place] + lines[place + 1 :]))
            texts.append("\n".join(lines[: place + 1] + lines[place:]))
            texts.append("\n".join(lines[:place] + lines[place : place + 2][::-1] + lines[place + 2 :]))
        texts.append("\n".join([lines[0]] + [line + "." for line in lines[1:]]))
        texts.append("\n".join([lines[0]] + [line + ".." for line in lines[1:]]))
        texts.append("\n".join([lines[0]] + [".." + line for line in lines[1:]]))
        texts.append("\n".join(lines[:1] + ["." * len(lines[-1])] * 2 + lines[1:]))
        texts.append("\n".join(lines + ["." * len(lines[-1])] * 2))
        return texts

    def test_every_spoiling_of_one_sheet(self):
        """No text but the sheet itself shows the picture, and each other one is refused or shows another."""
        picture = both_pictures(SQUARE, ((1, 1, 0),))
        text = sheet_of(picture)
        self.assertEqual(text, "0 0\n+-+-+\n|.|..\n+-+..")
        for place in range(len(text)):
            for number in range(32, 127):
                other = text[:place] + chr(number) + text[place + 1 :]
                told = self.told_or_refused(other)
                if told is not None:
                    self.assertEqual(slow_sheet(told), other)
        for number in range(32, 127):
            for place in range(len(text) + 1):
                other = text[:place] + chr(number) + text[place:]
                told = self.told_or_refused(other)
                if told is not None:
                    self.assertEqual(slow_sheet(told), other)


class WhatIsNoPicture(unittest.TestCase):
    """Point 20."""

    def test_it_is_refused(self):
        for picture in NO_PICTURES:
            with self.subTest(picture=picture):
                with self.assertRaises(NoPicture):
                    sheet_of(picture)

    def test_it_is_refused_ahead_of_what_is_too_great(self):
        for picture in [((99, 0, 0), (0, 0, 0)), ((0, 0, 0), (99, 0, 2)), ((0, 0, 0), (99, 0, 0), (99, 0, 0))]:
            with self.assertRaises(NoPicture):
                sheet_of(picture)


class NothingIsKept(unittest.TestCase):
    """Point 1."""

    def test_the_same_is_answered_whatever_was_asked_before(self):
        pictures = some_pictures(20)
        first = [(sheet_of(picture), read_sheet(sheet_of(picture))) for picture in pictures]
        with self.assertRaises(BadNote):
            read_sheet("0 0\n+")
        again = [(sheet_of(picture), read_sheet(sheet_of(picture))) for picture in reversed(pictures)]
        self.assertEqual(first, again[::-1])
