import random
import unittest

from penwright.errors import NoPicture, NoRoom
from penwright.pictures import both_pictures, mirrored_picture, moved_picture, turned_picture, without_picture
from penwright.rooms import area_of, is_ring, room_at, rooms_of, walls_of
from tests.helper import (
    NO_PICTURES,
    SQUARE,
    block,
    is_picture,
    no_two_are_one,
    outline,
    sketched,
    slow_pieces,
    some_picture,
    some_pictures,
    two_ends,
)

FAR = 10**20 - 1

NOTHING_SHUT_IN = {
    "no strokes": (),
    "one stroke": ((0, 0, 0),),
    "one stroke of the other way": ((3, -7, 1),),
    "an open square": sketched("+-+", "|  ", "+-+"),
    "a cross": sketched("  +  ", "  |  ", "+-+-+", "  |  ", "  +  "),
    "a spiral": sketched("+-+-+-+", "|     |", "+ +-+ +", "| | | |", "+ + + +", "|   | |", "+-+-+ +"),
    "open squares one within the other": sketched(
        "+-+-+-+", "|     |", "+ + + +", "| | | |", "+ +-+ +", "|     |", "+ + +-+"
    ),
    "two strokes beside one another": ((0, 0, 0), (0, 1, 0)),
}

TWO_BESIDE = sketched("+-+-+", "| | |", "+-+-+")
TWO_APART = sketched("+-+ +-+", "| | | |", "+-+ +-+")
TWO_AT_A_CORNER = sketched("  +-+", "  | |", "+-+-+", "| |  ", "+-+  ")
GRID = sketched("+-+-+", "| | |", "+-+-+", "| | |", "+-+-+")
ROOM_WITHIN = sketched("+-+-+-+", "|     |", "+ +-+ +", "| | | |", "+ +-+ +", "|     |", "+-+-+-+")
# The inner square hangs at a corner of the outer one's wall.
ROOM_AT_A_WALL = sketched("+-+-+", "| | |", "+-+ +", "|   |", "+-+-+")
STROKE_WITHIN = sketched("+-+-+", "| | |", "+ + +", "|   |", "+-+-+")
LOOSE_STROKE_WITHIN = sketched("+-+-+-+", "|     |", "+ +-+ +", "|     |", "+-+-+-+")
TAIL = sketched("+-+  ", "| |  ", "+-+-+")
LONG = sketched("+-+-+", "|   |", "+-+-+")


def slow_rooms(picture):
    """The rooms, found by giving all cells that hang together the least of their names, again and again."""
    if not picture:
        return []
    drawn = {frozenset(two_ends(stroke)) for stroke in picture}
    points = [point for stroke in picture for point in two_ends(stroke)]
    xs = range(min(x for x, _ in points) - 3, max(x for x, _ in points) + 3)
    ys = range(min(y for _, y in points) - 3, max(y for _, y in points) + 3)
    names = {(x, y): (x, y) for x in xs for y in ys}

    def pairs():
        for x, y in names:
            for near, corner in [((x + 1, y), (x + 1, y)), ((x, y + 1), (x, y + 1))]:
                if near in names and frozenset([corner, (x + 1, y + 1)]) not in drawn:
                    yield (x, y), near

    open_pairs = list(pairs())
    changed = True
    while changed:
        changed = False
        for one, other in open_pairs:
            if names[one] != names[other]:
                names[one] = names[other] = min(names[one], names[other])
                changed = True
    rooms = {}
    for cell in sorted(names):
        rooms.setdefault(names[cell], []).append(cell)
    rooms.pop((min(xs), min(ys)))
    return sorted(rooms.values())


def slow_walls(picture, room):
    walls = []
    for x, y, way in picture:
        beside = [(x, y), (x - 1, y) if way else (x, y - 1)]
        if sum(cell in room for cell in beside) == 1:
            walls.append((x, y, way))
    return tuple(sorted(walls))


def dense_pictures(number):
    chance = random.Random(60)
    return [some_picture(chance, chance.randint(20, 130), chance.randint(2, 6)) for _ in range(number)]


class Rooms(unittest.TestCase):
    """Point 60."""

    def test_nothing_is_shut_in(self):
        for name, picture in NOTHING_SHUT_IN.items():
            with self.subTest(name):
                self.assertEqual(rooms_of(picture), [])
                self.assertEqual(walls_of(picture), [])
                for cell in block(9, 9, -2, -9) + [(FAR, -FAR)]:
                    self.assertIsNone(room_at(picture, cell))

    def test_one_room(self):
        self.assertEqual(rooms_of(SQUARE), [[(0, 0)]])
        self.assertEqual(rooms_of(LONG), [[(0, 0), (1, 0)]])
        self.assertEqual(rooms_of(TAIL), [[(0, 0)]])
        self.assertEqual(rooms_of(sketched("+-+", "| |", "+ +", "| |", "+-+", y=-5)), [[(0, -5), (0, -4)]])
        self.assertEqual(rooms_of(outline(block(2, 2, -1, -1))), [[(-1, -1), (-1, 0), (0, -1), (0, 0)]])
        angle = sketched("+-+  ", "| |  ", "+ +-+", "|   |", "+-+-+")
        self.assertEqual(rooms_of(angle), [[(0, 0), (0, 1), (1, 0)]])

    def test_a_stroke_that_ends_in_the_open(self):
        self.assertEqual(rooms_of(STROKE_WITHIN), [[(0, 0), (0, 1), (1, 0), (1, 1)]])
        self.assertEqual(rooms_of(LOOSE_STROKE_WITHIN), [block(3, 2)])

    def test_rooms_beside_one_another(self):
        self.assertEqual(rooms_of(TWO_BESIDE), [[(0, 0)], [(1, 0)]])
        self.assertEqual(rooms_of(TWO_APART), [[(0, 0)], [(2, 0)]])
        self.assertEqual(rooms_of(TWO_AT_A_CORNER), [[(0, 0)], [(1, 1)]])
        self.assertEqual(rooms_of(GRID), [[(0, 0)], [(0, 1)], [(1, 0)], [(1, 1)]])

    def test_a_room_within_a_room(self):
        around = [cell for cell in block(3, 3) if cell != (1, 1)]
        self.assertEqual(rooms_of(ROOM_WITHIN), [around, [(1, 1)]])
        self.assertEqual(rooms_of(ROOM_AT_A_WALL), [[(0, 0), (1, 0), (1, 1)], [(0, 1)]])
        inner = both_pictures(outline(block(5, 5, 1, 1)), outline(block(3, 3, 2, 2)))
        rooms = rooms_of(both_pictures(outline(block(7, 7)), inner))
        self.assertEqual([len(room) for room in rooms], [24, 16, 9])

    def test_a_room_that_goes_round_another_and_comes_behind_it(self):
        cells = [(0, 2), (1, 2), (1, 3), (2, 0), (2, 1), (2, 2)]
        picture = both_pictures(outline(cells), outline([(0, 0), (0, 1), (1, 0), (1, 1)]))
        rooms = rooms_of(picture)
        self.assertEqual(rooms, [[(0, 0), (0, 1), (1, 0), (1, 1)], cells])

    def test_the_order_of_cells_and_of_rooms(self):
        # The first cell of a room is the least x, and then the least y, whatever else it has.
        low = [(-2, 5), (-1, 5), (-1, 4), (-1, 3)]
        high = [(-2, -4), (-1, -4)]
        picture = both_pictures(outline(low), outline(high))
        self.assertEqual(rooms_of(picture), [sorted(high), sorted(low)])
        for picture in dense_pictures(60):
            rooms = rooms_of(picture)
            self.assertTrue(all(room == sorted(set(room)) for room in rooms))
            self.assertEqual([room[0] for room in rooms], sorted(room[0] for room in rooms))

    def test_many_pictures(self):
        with_rooms = 0
        for picture in some_pictures(80) + dense_pictures(150):
            asked = slow_rooms(picture)
            told = rooms_of(picture)
            self.assertEqual(told, asked)
            with_rooms += len(told) > 1
            self.assertIs(type(told), list)
            for room in told:
                self.assertIs(type(room), list)
                self.assertTrue(all(type(cell) is tuple for cell in room))
        self.assertGreater(with_rooms, 50)

    def test_far_from_nought(self):
        for picture in (GRID, ROOM_WITHIN, TWO_AT_A_CORNER):
            far = moved_picture(picture, FAR, -FAR)
            self.assertEqual(rooms_of(far), [[(x + FAR, y - FAR) for x, y in room] for room in rooms_of(picture)])
            self.assertEqual(walls_of(far), [moved_picture(walls, FAR, -FAR) for walls in walls_of(picture)])


class RoomAt(unittest.TestCase):
    """Point 60."""

    def test_a_cell_in_each_room(self):
        self.assertEqual(room_at(SQUARE, (0, 0)), 0)
        self.assertEqual(room_at(TWO_BESIDE, (0, 0)), 0)
        self.assertEqual(room_at(TWO_BESIDE, (1, 0)), 1)
        self.assertEqual(room_at(ROOM_WITHIN, (2, 2)), 0)
        self.assertEqual(room_at(ROOM_WITHIN, (1, 1)), 1)
        self.assertEqual([room_at(GRID, cell) for cell in [(0, 0), (0, 1), (1, 0), (1, 1)]], [0, 1, 2, 3])

    def test_a_cell_beside_and_far_away(self):
        for cell in [(1, 0), (0, 1), (-1, 0), (0, -1), (1, 1), (-1, -1), (FAR, 0), (0, -FAR), (FAR, FAR)]:
            self.assertIsNone(room_at(SQUARE, cell))
        self.assertIsNone(room_at(TWO_APART, (1, 0)))
        self.assertIsNone(room_at(TWO_AT_A_CORNER, (0, 1)))
        self.assertIsNone(room_at(TAIL, (1, 0)))

    def test_many_pictures(self):
        for picture in dense_pictures(40):
            rooms = slow_rooms(picture)
            for cell in block(11, 11, -2, -2):
                asked = [number for number, room in enumerate(rooms) if cell in room]
                self.assertEqual(room_at(picture, cell), asked[0] if asked else None)


class TheBox(unittest.TestCase):
    """Point 60: the interface bounds the box."""

    def strokes_apart(self, width, height, x=0, y=0):
        """Two strokes in the corners of such a box."""
        if height == 0:
            return ((x, y, 0), (x + width - 1, y, 0))
        if width == 0:
            return ((x, y, 1), (x, y + height - 1, 1))
        return ((x, y, 0), (x + width, y + height - 1, 1))

    def test_just_as_great_as_may_be(self):
        for width, height in [(48, 48), (1248, 0), (0, 1248), (98, 23), (8, 248), (498, 3), (2, 623)]:
            for x, y in [(0, 0), (-20, 7), (FAR, -FAR)]:
                with self.subTest(width=width, height=height, x=x):
                    self.assertEqual((width + 2) * (height + 2), 2500)
                    picture = self.strokes_apart(width, height, x, y)
                    self.assertEqual(rooms_of(picture), [])
                    self.assertIsNone(room_at(picture, (x, y)))
                    self.assertEqual(walls_of(picture), [])

    def test_just_above(self):
        for width, height in [(59, 39), (39, 59), (48, 49), (49, 48), (1249, 0), (0, 1249), (99, 23), (98, 24)]:
            for x, y in [(0, 0), (-20, 7), (FAR, -FAR)]:
                with self.subTest(width=width, height=height, x=x):
                    self.assert_too_great(self.strokes_apart(width, height, x, y))

    def test_a_great_ring(self):
        ring = outline(block(48, 48, 5, 5))
        self.assertEqual(rooms_of(ring), [block(48, 48, 5, 5)])
        self.assertEqual(room_at(ring, (52, 52)), 0)
        self.assertEqual(walls_of(ring), [ring])
        greater = outline(block(49, 48))
        self.assert_too_great(greater)
        self.assertIs(is_ring(greater), True)
        self.assertEqual(area_of(greater), 49 * 48)
        for width, height in [(250, 250), (499, 1), (1, 499)]:
            ring = outline(block(width, height, -7, 3))
            self.assertEqual(len(ring), 1000)
            self.assertIs(is_ring(ring), True)
            self.assertEqual(area_of(ring), width * height)

    def test_strokes_very_far_apart(self):
        for picture in [
            ((0, 0, 0), (FAR, 0, 0)),
            ((0, 0, 1), (0, FAR, 1)),
            ((-FAR, -FAR, 0), (FAR, FAR, 1)),
            both_pictures(SQUARE, moved_picture(SQUARE, FAR, FAR)),
        ]:
            self.assert_too_great(picture)
            self.assertIs(is_ring(picture), False)
            self.assertIsNone(area_of(picture))

    def assert_too_great(self, picture):
        for ask in (rooms_of, walls_of, lambda other: room_at(other, (0, 0)), lambda other: room_at(other, (FAR, 3))):
            with self.assertRaises(NoRoom):
                ask(picture)


class HowManyRooms(unittest.TestCase):
    """Point 61."""

    def assert_so_many(self, picture, rooms, pieces):
        points = {point for stroke in picture for point in two_ends(stroke)}
        self.assertEqual(len(slow_pieces(picture)), pieces)
        self.assertEqual(len(rooms_of(picture)), rooms)
        self.assertEqual(rooms, len(picture) - len(points) + pieces)

    def test_by_strokes_points_and_pieces(self):
        self.assert_so_many((), 0, 0)
        self.assert_so_many(((0, 0, 0),), 0, 1)
        self.assert_so_many(SQUARE, 1, 1)
        self.assert_so_many(TWO_APART, 2, 2)
        self.assert_so_many(TWO_AT_A_CORNER, 2, 1)
        self.assert_so_many(ROOM_WITHIN, 2, 2)
        self.assert_so_many(LOOSE_STROKE_WITHIN, 1, 2)
        self.assert_so_many(GRID, 4, 1)
        self.assert_so_many(both_pictures(GRID, moved_picture(GRID, 5, 0)), 8, 2)
        self.assert_so_many(tuple((2 * x, 0, 0) for x in range(9)), 0, 9)

    def test_many_pictures(self):
        for picture in some_pictures(80) + dense_pictures(80):
            self.assert_so_many(picture, len(rooms_of(picture)), len(slow_pieces(picture)))


class Walls(unittest.TestCase):
    """Point 62."""

    def test_walls_of_each_room(self):
        self.assertEqual(walls_of(()), [])
        self.assertEqual(walls_of(SQUARE), [SQUARE])
        self.assertEqual(walls_of(TWO_BESIDE), [SQUARE, moved_picture(SQUARE, 1, 0)])
        self.assertEqual(walls_of(GRID), [outline([cell]) for cell in [(0, 0), (0, 1), (1, 0), (1, 1)]])
        self.assertEqual(walls_of(TWO_AT_A_CORNER), [SQUARE, moved_picture(SQUARE, 1, 1)])

    def test_a_room_with_another_within_it(self):
        self.assertEqual(walls_of(ROOM_WITHIN), [ROOM_WITHIN, outline([(1, 1)])])
        self.assertEqual(walls_of(ROOM_AT_A_WALL), [outline([(0, 0), (1, 0), (1, 1)]), outline([(0, 1)])])

    def test_strokes_with_the_room_on_both_sides(self):
        self.assertEqual(walls_of(STROKE_WITHIN), [outline(block(2, 2))])
        self.assertEqual(walls_of(LOOSE_STROKE_WITHIN), [outline(block(3, 2))])

    def test_strokes_with_a_room_on_neither_side(self):
        self.assertEqual(walls_of(TAIL), [SQUARE])
        self.assertEqual(walls_of(both_pictures(SQUARE, ((7, 7, 1),))), [SQUARE])

    def test_many_pictures(self):
        for picture in some_pictures(60) + dense_pictures(100):
            told = walls_of(picture)
            self.assertIs(type(told), list)
            self.assertTrue(all(is_picture(walls) for walls in told))
            self.assertEqual(told, [slow_walls(picture, room) for room in slow_rooms(picture)])


ANGLE_CELLS = [(0, 0), (1, 0), (2, 0), (0, 1)]
SHAPES = {
    "one cell": [(0, 0)],
    "a row": block(5, 1),
    "a column": block(1, 4),
    "a rectangle": block(4, 3),
    "an angle": ANGLE_CELLS,
    "stairs": [(0, 0), (1, 0), (1, 1), (2, 1), (2, 2)],
    "a cross": [(1, 0), (0, 1), (1, 1), (2, 1), (1, 2)],
    "a comb": block(7, 1) + [(0, 1), (2, 1), (4, 1), (6, 1), (0, 2), (4, 2)],
    "a spiral": block(5, 1) + block(1, 3, 4, 1) + block(5, 1, 0, 4) + [(0, 3), (0, 2), (1, 2), (2, 2)],
}

NO_RINGS = {
    "no strokes": (),
    "one stroke": ((0, 0, 0),),
    "two strokes": ((0, 0, 0), (0, 0, 1)),
    "a stroke twice as long": ((0, 0, 0), (1, 0, 0)),
    "two beside one another": TWO_BESIDE,
    "two apart": TWO_APART,
    "two at a corner": TWO_AT_A_CORNER,
    "one within the other": ROOM_WITHIN,
    "a tail": TAIL,
    "a stroke within": STROKE_WITHIN,
    "a loose stroke within": LOOSE_STROKE_WITHIN,
    "a cell put in": both_pictures(outline(block(3, 1)), ((1, 0, 1),)),
    "two far apart": both_pictures(SQUARE, moved_picture(SQUARE, 5, FAR)),
}


class Rings(unittest.TestCase):
    """Point 63."""

    def test_rings(self):
        for name, cells in SHAPES.items():
            with self.subTest(name):
                ring = outline(cells)
                self.assertIs(is_ring(ring), True)
                self.assertEqual(area_of(ring), len(cells))
                self.assertEqual(rooms_of(ring), [sorted(cells)])

    def test_no_rings(self):
        for name, picture in NO_RINGS.items():
            with self.subTest(name):
                self.assertIs(is_ring(picture), False)
                self.assertIsNone(area_of(picture))

    def test_a_stroke_left_out(self):
        for cells in SHAPES.values():
            ring = outline(cells)
            for place in range(len(ring)):
                self.assert_no_ring(ring[:place] + ring[place + 1 :])

    def test_a_stroke_put_in(self):
        for cells in SHAPES.values():
            ring = outline(cells)
            for x, y in block(8, 8, -1, -1):
                for way in (0, 1):
                    if (x, y, way) not in ring:
                        self.assert_no_ring(both_pictures(ring, ((x, y, way),)))

    def assert_no_ring(self, picture):
        self.assertIs(is_ring(picture), False)
        self.assertIsNone(area_of(picture))

    def test_far_away_and_gone_round_either_way(self):
        for cells in SHAPES.values():
            for ring in (outline(cells), mirrored_picture(outline(cells))):
                for quarters in range(4):
                    for x, y in [(0, 0), (FAR, -FAR), (-FAR, -FAR), (10**30, 3), (-11, 4)]:
                        laid = moved_picture(turned_picture(ring, quarters), x, y)
                        self.assertIs(is_ring(laid), True)
                        self.assertEqual(area_of(laid), len(cells))

    def test_many_outlines(self):
        chance = random.Random(63)
        rings = 0
        for _ in range(400):
            cells = [(0, 0)]
            for _ in range(chance.randint(0, 12)):
                x, y = chance.choice(cells)
                step_x, step_y = chance.choice([(1, 0), (0, 1), (-1, 0), (0, -1)])
                cells.append((x + step_x, y + step_y))
            picture = outline(cells)
            ends = [point for stroke in picture for point in two_ends(stroke)]
            asked = len(slow_pieces(picture)) == 1 and all(ends.count(point) == 2 for point in ends)
            self.assertIs(is_ring(picture), asked)
            self.assertEqual(area_of(picture), len(set(cells)) if asked else None)
            rings += asked
            gone = without_picture(picture, (chance.choice(picture),))
            self.assertIs(is_ring(gone), False)
        self.assertGreater(rings, 100)


class WhatIsNoPicture(unittest.TestCase):
    """Point 20."""

    def test_it_is_refused(self):
        asked = [rooms_of, walls_of, is_ring, area_of]
        asked += [lambda picture, cell=cell: room_at(picture, cell) for cell in [(0, 0), (FAR, 3)]]
        for place, ask in enumerate(asked):
            for picture in NO_PICTURES:
                with self.subTest(asked=place, picture=picture):
                    with self.assertRaises(NoPicture):
                        ask(picture)

    def test_it_is_refused_ahead_of_what_is_too_great(self):
        for picture in [((FAR, 0, 0), (0, 0, 0)), ((0, 0, 0), (FAR, 0, 2)), ((0, 0, 0), (FAR, 0, 0), (FAR, 0, 0))]:
            for ask in (rooms_of, walls_of, is_ring, area_of, lambda other: room_at(other, (0, 0))):
                with self.assertRaises(NoPicture):
                    ask(picture)


class NothingIsKept(unittest.TestCase):
    """Point 1."""

    def test_what_is_told_is_the_askers_own(self):
        for picture in (SQUARE, GRID, ROOM_WITHIN):
            for ask in (rooms_of, walls_of):
                first = ask(picture)
                asked = [part[:] for part in first]
                self.assertTrue(no_two_are_one([first, ask(picture)]))
                for part in first:
                    if isinstance(part, list):
                        part.clear()
                first.clear()
                self.assertEqual(ask(picture), asked)

    def test_the_same_is_answered_whatever_was_asked_before(self):
        pictures = [(), SQUARE, GRID, ROOM_WITHIN, TAIL] + dense_pictures(10)
        asked = [rooms_of, walls_of, is_ring, area_of, lambda picture: room_at(picture, (1, 1))]
        first = [[ask(picture) for ask in asked] for picture in pictures]
        with self.assertRaises(NoRoom):
            rooms_of(((0, 0, 0), (FAR, 0, 0)))
        again = [[ask(picture) for ask in asked] for picture in reversed(pictures)]
        self.assertEqual(first, again[::-1])
