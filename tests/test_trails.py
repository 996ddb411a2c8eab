import copy
import random
import unittest

from penwright.errors import NoPicture
from penwright.trails import deeds_of, has_trails, odd_points, picture_pieces, trails_needed, trails_of
from tests.helper import GREATEST, NO_PICTURES, SQUARE, is_picture, slowly_drawn, some_pictures, two_ends

FAR = 10**29 + 7
ROW = tuple((x, 3, 0) for x in range(1000))
# Two squares with a point in common.
TWO_SQUARES = tuple(sorted(SQUARE + ((1, 1, 0), (1, 1, 1), (1, 2, 0), (2, 1, 1))))
CROSS = ((-1, 0, 0), (0, -1, 1), (0, 0, 0), (0, 0, 1))
# A row of eight teeth on a stem.
COMB = tuple(sorted([(x, 0, 0) for x in range(8)] + [(x, 0, 1) for x in range(8)]))
# The strokes between all points of a square.
NET = tuple(
    sorted([(x, y, 0) for x in range(20) for y in range(21)] + [(x, y, 1) for x in range(21) for y in range(20)])
)

PICTURES = [
    (),
    ((0, 0, 0),),
    ((FAR, -FAR, 0), (FAR, 1 - FAR, 1)),
    SQUARE,
    TWO_SQUARES,
    CROSS,
    COMB,
    ROW,
    NET,
] + some_pictures(250)


def slow_pieces(picture):
    """The pieces of a picture, found by putting together those that have a point in common."""
    pieces = []
    for stroke in picture:
        ends = set(two_ends(stroke))
        near = [piece for piece in pieces if any(ends & set(two_ends(other)) for other in piece)]
        pieces = [piece for piece in pieces if piece not in near] + [sum(near, [stroke])]
    return sorted(tuple(sorted(piece)) for piece in pieces)


def slow_odd_points(picture):
    ends = [end for stroke in picture for end in two_ends(stroke)]
    return sorted({end for end in ends if ends.count(end) % 2 == 1})


def slow_strokes(trail):
    strokes = []
    for one, other in zip(trail, trail[1:]):
        low, high = sorted([one, other])
        strokes += [low + (way,) for way in (0, 1) if two_ends(low + (way,)) == [low, high]]
    return strokes


class Pieces(unittest.TestCase):
    """Points 30 and 32."""

    def test_pieces(self):
        self.assertEqual(picture_pieces(()), [])
        self.assertEqual(picture_pieces(((5, 5, 1),)), [((5, 5, 1),)])
        self.assertEqual(picture_pieces(SQUARE), [SQUARE])
        self.assertEqual(picture_pieces(TWO_SQUARES), [TWO_SQUARES])
        self.assertEqual(picture_pieces(CROSS), [CROSS])
        self.assertEqual(picture_pieces(ROW), [ROW])
        self.assertEqual(picture_pieces(NET), [NET])

    def test_pieces_that_lie_close_and_far_apart(self):
        self.assertEqual(picture_pieces(((0, 0, 0), (0, 1, 0))), [((0, 0, 0),), ((0, 1, 0),)])
        self.assertEqual(picture_pieces(((0, 0, 0), (2, 0, 0))), [((0, 0, 0),), ((2, 0, 0),)])
        self.assertEqual(picture_pieces(((0, 0, 1), (1, 0, 0))), [((0, 0, 1),), ((1, 0, 0),)])
        self.assertEqual(picture_pieces(((0, 0, 0), (1, 0, 1), (1, 2, 1))), [((0, 0, 0), (1, 0, 1)), ((1, 2, 1),)])
        far = ((-FAR, 0, 0), (0, 0, 0), (1, 0, 0), (FAR, FAR, 1))
        self.assertEqual(picture_pieces(far), [far[:1], far[1:3], far[3:]])

    def test_pieces_that_stand_across_one_another_in_order(self):
        outer = [(0, 0, 0), (1, 0, 0), (2, 0, 0), (0, 0, 1), (0, 1, 1), (0, 2, 1), (3, 0, 1), (3, 1, 1), (3, 2, 1)]
        inner = [(1, 1, 0), (1, 1, 1)]
        self.assertEqual(picture_pieces(tuple(sorted(outer + inner))), [tuple(sorted(outer)), tuple(sorted(inner))])

    def test_a_thousand_pieces(self):
        picture = tuple((2 * x, 0, 1) for x in range(1000))
        self.assertEqual(picture_pieces(picture), [(stroke,) for stroke in picture])
        self.assertEqual(trails_needed(picture), 1000)
        self.assertEqual(len(trails_of(picture)), 1000)
        self.assertEqual(len(odd_points(picture)), 2000)

    def test_as_found_by_putting_together(self):
        for picture in PICTURES:
            if len(picture) < 100:
                told = picture_pieces(picture)
                self.assertIs(type(told), list)
                self.assertTrue(all(is_picture(piece) for piece in told))
                self.assertEqual(told, slow_pieces(picture))

    def test_odd_points(self):
        self.assertEqual(odd_points(()), [])
        self.assertEqual(odd_points(((5, 5, 1),)), [(5, 5), (5, 6)])
        self.assertEqual(odd_points(SQUARE), [])
        self.assertEqual(odd_points(TWO_SQUARES), [])
        self.assertEqual(odd_points(CROSS), [(-1, 0), (0, -1), (0, 1), (1, 0)])
        self.assertEqual(odd_points(((0, 0, 0), (1, 0, 0), (1, 0, 1))), [(0, 0), (1, 0), (1, 1), (2, 0)])
        self.assertEqual(odd_points(ROW), [(0, 3), (1000, 3)])
        for picture in PICTURES:
            told = odd_points(picture)
            self.assertIs(type(told), list)
            self.assertEqual(told, slow_odd_points(picture))

    def test_how_many_trails_are_needed(self):
        self.assertEqual(trails_needed(()), 0)
        self.assertEqual(trails_needed(((5, 5, 1),)), 1)
        self.assertEqual(trails_needed(SQUARE), 1)
        self.assertEqual(trails_needed(TWO_SQUARES), 1)
        self.assertEqual(trails_needed(CROSS), 2)
        self.assertEqual(trails_needed(COMB), 8)
        self.assertEqual(trails_needed(ROW), 1)
        self.assertEqual(trails_needed(NET), 38)
        apart = SQUARE + tuple((x + 9, y, way) for x, y, way in SQUARE) + ((20, 0, 0),)
        self.assertEqual(trails_needed(apart), 3)
        for picture in PICTURES:
            needed = [max(1, len(slow_odd_points(piece)) // 2) for piece in picture_pieces(picture)]
            self.assertEqual(trails_needed(picture), sum(needed))


class Trails(unittest.TestCase):
    """Point 31."""

    def test_trails_have_each_stroke_once_and_are_as_few_as_are_needed(self):
        for picture in PICTURES:
            with self.subTest(picture=picture[:20]):
                self.assert_trails(picture)

    def assert_trails(self, picture):
        told = trails_of(picture)
        self.assertIs(type(told), list)
        for trail in told:
            self.assertIs(type(trail), list)
            self.assertGreaterEqual(len(trail), 2)
            for point in trail:
                self.assertIs(type(point), tuple)
                self.assertEqual([type(number) for number in point], [int, int])
            for one, other in zip(trail, trail[1:]):
                self.assertEqual(abs(one[0] - other[0]) + abs(one[1] - other[1]), 1)
        strokes = [stroke for trail in told for stroke in slow_strokes(trail)]
        self.assertEqual(sorted(strokes), list(picture))
        self.assertEqual(len(told), trails_needed(picture))
        self.assertIs(has_trails(picture, told), True)

    def test_pictures_of_a_thousand_strokes(self):
        chance = random.Random(31)
        places = [(x, y, way) for x in range(24) for y in range(24) for way in (0, 1)]
        for number in (400, 700, 1000):
            self.assert_trails(tuple(sorted(chance.sample(places, number))))

    def test_trails_that_have_it(self):
        around = [(0, 0), (1, 0), (1, 1), (0, 1), (0, 0)]
        self.assertIs(has_trails(SQUARE, [around]), True)
        self.assertIs(has_trails(SQUARE, [around[::-1]]), True)
        self.assertIs(has_trails(SQUARE, [around[:3], around[2:]]), True)
        self.assertIs(has_trails(SQUARE, [around[2:], around[:3][::-1]]), True)
        self.assertIs(has_trails(SQUARE, [around[place : place + 2] for place in (3, 1, 0, 2)]), True)
        self.assertIs(has_trails((), []), True)
        self.assertIs(has_trails(((FAR, -FAR, 1),), [[(FAR, 1 - FAR), (FAR, -FAR)]]), True)

    def test_trails_that_do_not(self):
        around = [(0, 0), (1, 0), (1, 1), (0, 1), (0, 0)]
        half, rest = around[:3], around[2:]
        for trails in [
            [],
            [half],
            [rest],
            [half, half],
            [half, rest, rest],
            [half, rest, half[::-1]],
            [around, around],
            [around[:-1]],
            [around[:2] + around[3:]],
            [[(0, 0), (1, 1), (0, 1), (0, 0)], half],
            [around + [(9, 9)]],
            [around + [(FAR, FAR)]],
            [around, [(5, 5)]],
            [around, []],
            [[], around],
            [[]],
            [[(0, 0)]],
            [around, [(0, 0)]],
            [around + [(1, 0)]],
            [around + [(0, 0)]],
            [around, [(5, 5), (6, 5)]],
            [half, [(1, 1), (0, 1), (0, 2)]],
            [[(1, 0), (2, 0), (2, 1), (1, 1), (1, 0)]],
            [around + [(-1, 0), (0, 0)]],
            [around[:1] + around],
        ]:
            with self.subTest(trails=trails):
                self.assertIs(has_trails(SQUARE, trails), False)
        self.assertIs(has_trails((), [[]]), False)
        self.assertIs(has_trails((), [[(0, 0)]]), False)
        self.assertIs(has_trails((), [[(0, 0), (1, 0)]]), False)

    def test_told_trails_that_are_spoilt(self):
        for picture in PICTURES[1:60]:
            trails = trails_of(picture)
            if trails:
                self.assertIs(has_trails(picture, [trail[::-1] for trail in reversed(trails)]), True)
                self.assertIs(has_trails(picture, trails[1:]), False)
                self.assertIs(has_trails(picture, trails + trails[:1]), False)
                self.assertIs(has_trails(picture, trails + [trails[0][::-1]]), False)
                self.assertIs(has_trails(picture, [trails[0][1:]] + trails[1:]), False)
                self.assertIs(has_trails(picture, trails + [[(77, 77), (77, 78)]]), False)
                self.assertIs(has_trails(picture, trails + [[trails[0][0]]]), False)

    def test_what_is_no_picture_is_refused(self):
        asked = [
            picture_pieces,
            odd_points,
            trails_needed,
            trails_of,
            lambda picture: has_trails(picture, []),
            lambda picture: has_trails(picture, [[(0, 0)]]),
            lambda picture: has_trails(picture, [[(0, 0), (1, 0)]]),
        ]
        for place, ask in enumerate(asked):
            for picture in NO_PICTURES:
                with self.subTest(asked=place, picture=picture):
                    with self.assertRaises(NoPicture):
                        ask(picture)


class DeedsOfTrails(unittest.TestCase):
    """Point 31."""

    def assert_deeds(self, trails):
        told = deeds_of(trails)
        self.assertIs(type(told), list)
        for deed in told:
            self.assertIs(type(deed), tuple)
            self.assertIn(deed[0], ("go", "jump", "turn"))
            self.assertIs(type(deed[1]), int)
            self.assertEqual(len(deed), 2)
            self.assertLessEqual(abs(deed[1]), GREATEST)
            self.assertTrue(deed[0] != "go" or deed[1] >= 0)
        asked = [stroke for trail in trails for stroke in slow_strokes(trail)]
        self.assertEqual(sorted(slowly_drawn(told)), sorted(asked))

    def test_no_trails(self):
        self.assertEqual(slowly_drawn(deeds_of([])), [])
        self.assert_deeds([])

    def test_trails_every_way(self):
        for start in [(0, 0), (3, 0), (0, 3), (-3, 2), (5, -7)]:
            x, y = start
            for end in [(x + 1, y), (x - 1, y), (x, y + 1), (x, y - 1)]:
                self.assert_deeds([[start, end]])
                self.assert_deeds([[start, end], [end, start]])
                self.assert_deeds([[start, end], [start, end]])

    def test_trails_far_apart(self):
        for far in (100, 10**19, GREATEST, GREATEST - 1):
            for start in [(far, far), (-far, far), (-far, -far), (far, 0), (0, -far)]:
                x, y = start
                self.assert_deeds([[start, (x, y - 1), (x - 1, y - 1)]])
                self.assert_deeds([[start, (x + 1, y)], [(-x, -y), (-x, 1 - y)], [start, (x, y + 1)]])

    def test_trails_that_lie_one_or_two_figures_beyond(self):
        far = 12 * GREATEST + 5
        self.assert_deeds([[(far, -far), (far, 1 - far)], [(-far, far), (1 - far, far)], [(0, 0), (0, 1)]])

    def test_trails_of_points_that_no_jumps_of_twenty_figures_reach_in_time(self):
        trails = [[(FAR, -FAR), (FAR, 1 - FAR)], [(0, 0), (1, 0)]]
        self.assertEqual(sorted(slowly_drawn(deeds_of(trails))), [(0, 0, 0), (FAR, -FAR, 1)])

    def test_trails_that_go_back_over_themselves(self):
        self.assert_deeds([[(0, 0), (1, 0), (0, 0), (1, 0), (0, 0)]])
        self.assert_deeds([[(2, 2), (2, 3), (2, 2), (2, 1), (2, 2), (3, 2), (2, 2)]])
        self.assert_deeds([[(x, 0) for x in range(10)] + [(x, 0) for x in range(8, -5, -1)]])

    def test_trails_that_go_on_from_one_another(self):
        self.assert_deeds([[(0, 0), (1, 0)], [(1, 0), (2, 0)], [(2, 0), (2, 1)], [(2, 1), (2, 0)]])

    def test_trails_of_pictures(self):
        for picture in PICTURES[3:100]:
            self.assert_deeds(trails_of(picture))

    def test_a_thousand_points(self):
        chance = random.Random(32)
        for trails, points in [(1, 1000), (500, 2), (100, 10)]:
            some = []
            for _ in range(trails):
                trail = [(chance.randint(-50, 50), chance.randint(-50, 50))]
                while len(trail) < points:
                    x, y = chance.choice([(1, 0), (-1, 0), (0, 1), (0, -1)])
                    trail.append((trail[-1][0] + x, trail[-1][1] + y))
                some.append(trail)
            self.assert_deeds(some)

    def test_what_is_no_trail_is_refused(self):
        good = [(4, 4), (4, 5)]
        for bad in [
            [],
            [(0, 0)],
            [(0, 0), (0, 0)],
            [(0, 0), (1, 1)],
            [(0, 0), (2, 0)],
            [(0, 0), (0, -2)],
            [(0, 0), (1, 0), (1, 2)],
            [(0, 0), (1, 0), (1, 0)],
            [(0, 0), (1, 0), (FAR, 0)],
            [(5, 5), (0, 0), (1, 0)],
        ]:
            for trails in ([bad], [bad, good], [good, bad], [good, bad, good]):
                with self.subTest(trails=trails):
                    with self.assertRaises(NoPicture):
                        deeds_of(trails)


class NothingIsKept(unittest.TestCase):
    """Point 1."""

    def test_what_is_handed_in_is_not_changed(self):
        trails = trails_of(COMB)
        before = copy.deepcopy(trails)
        has_trails(COMB, trails)
        deeds_of(trails)
        self.assertEqual(trails, before)

    def test_what_is_handed_in_is_not_kept(self):
        trails = [[(0, 0), (1, 0)], [(5, 5), (5, 6)]]
        deeds = deeds_of(trails)
        before = list(deeds)
        trails[0].append((2, 0))
        trails.pop()
        self.assertEqual(deeds, before)
        self.assertEqual(slowly_drawn(deeds_of(trails)), [(0, 0, 0), (1, 0, 0)])

    def test_what_is_told_is_the_askers_own(self):
        trails = [[(0, 0), (1, 0)], [(0, 0), (1, 0)]]
        for ask, handed in [
            (picture_pieces, COMB),
            (odd_points, COMB),
            (odd_points, ()),
            (trails_of, COMB),
            (trails_of, ()),
            (deeds_of, trails),
            (deeds_of, []),
        ]:
            first = ask(handed)
            kept = copy.deepcopy(first)
            for part in first:
                if isinstance(part, list):
                    part.append("spoilt")
            first.append("spoilt")
            self.assertEqual(ask(handed), kept)

    def test_no_two_lists_are_one(self):
        for picture in PICTURES:
            told = trails_of(picture)
            self.assertEqual(len({id(trail) for trail in told}), len(told))
