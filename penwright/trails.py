"""Trails: the pieces of a picture, and how to go along its strokes, each once."""

from penwright.errors import NoPicture
from penwright.pictures import check_picture, ends_of, strokes_along
from penwright.words import AHEAD, GREATEST_NUMBER, START, led

# Into so many jumps a far one is parted at the most.
MOST_PARTS = 1000


def picture_pieces(picture):
    check_picture(picture)
    at = strokes_at(picture)
    seen = {}
    pieces = []
    for stroke in picture:
        if stroke not in seen:
            pieces.append(piece_with(stroke, at, seen))
    return pieces


def strokes_at(picture):
    at = {}
    for stroke in picture:
        for point in ends_of(stroke):
            at.setdefault(point, []).append(stroke)
    return at


def piece_with(stroke, at, seen):
    seen[stroke] = True
    piece = [stroke]
    place = 0
    while place < len(piece):
        here = piece[place]
        for point in ends_of(here):
            piece.extend(take_unseen(at[point], seen))
        place = place + 1
    return tuple(sorted(piece))


def take_unseen(strokes, seen):
    taken = [stroke for stroke in strokes if stroke not in seen]
    for stroke in taken:
        seen[stroke] = True
    return taken


def odd_points(picture):
    check_picture(picture)
    at = strokes_at(picture)
    return sorted([point for point in at if len(at[point]) % 2 == 1])


def trails_needed(picture):
    return sum([trails_of_piece_needed(piece) for piece in picture_pieces(picture)])


def trails_of_piece_needed(piece):
    return max(1, len(odd_points(piece)) // 2)


def trails_of(picture):
    trails = []
    for piece in picture_pieces(picture):
        trails.extend(trails_of_piece(piece))
    return trails


# Bridges between odd points make one way out of the piece that has each link
# once; without the bridges it falls into trails. No two bridges have a point
# in common, and neither the first nor the last odd point has one, so each
# trail has a stroke.
def trails_of_piece(piece):
    odd = odd_points(piece)
    strokes = [ends_of(stroke) for stroke in piece]
    bridges = [(odd[place], odd[place + 1]) for place in range(1, len(odd) - 1, 2)]
    start = odd[0] if len(odd) > 0 else strokes[0][0]
    return parted_at_bridges(way_along(strokes + bridges, start), len(strokes))


# A way that has each link once: a list of (point, the number of the link from
# there to the point that follows, None at the end). It is found from its end:
# a point is told when no link is left there but the one by which it was come to.
def way_along(links, start):
    at = links_at(links)
    used = {}
    waiting = [(start, None)]
    way = []
    while len(waiting) > 0:
        point = waiting[-1][0]
        number = take_unused(at[point], used)
        if number is None:
            way.append(waiting.pop())
        else:
            used[number] = True
            waiting.append((other_end(links[number], point), number))
    return way


def links_at(links):
    at = {}
    for number in range(len(links)):
        for point in links[number]:
            at.setdefault(point, []).append(number)
    return at


def take_unused(numbers, used):
    while len(numbers) > 0:
        number = numbers.pop()
        if number not in used:
            return number
    return None


def other_end(link, point):
    return link[1] if link[0] == point else link[0]


# Links are bridges from this number on.
def parted_at_bridges(way, first_bridge):
    trails = [[way[0][0]]]
    for place in range(1, len(way)):
        if way[place - 1][1] >= first_bridge:
            trails.append([])
        trails[-1].append(way[place][0])
    return trails


def has_trails(picture, trails):
    check_picture(picture)
    if not all([is_trail(trail) for trail in trails]):
        return False
    strokes = []
    for trail in trails:
        strokes.extend(strokes_along(trail))
    return tuple(sorted(strokes)) == picture


def is_trail(trail):
    return len(trail) > 1 and all([are_next(trail[place - 1], trail[place]) for place in range(1, len(trail))])


def are_next(point, other):
    return abs(point[0] - other[0]) + abs(point[1] - other[1]) == 1


def deeds_of(trails):
    if not all([is_trail(trail) for trail in trails]):
        raise NoPicture("there is no such trail")
    scribe = Scribe()
    for trail in trails:
        scribe.jump_to(trail[0])
        for point in trail[1:]:
            scribe.go_to(point)
    return scribe.deeds


# Leads a pen from START on, and writes down the deeds that do so.
class Scribe:
    def __init__(self):
        self.pen = START
        self.deeds = []

    def turn_to(self, heading):
        quarters = (heading - self.pen[2]) % 4
        if quarters != 0:
            self.deeds.append(("turn", quarters))
            self.pen = led(self.pen, (0, 0, quarters))

    def jump_to(self, point):
        self.jump(0, point[0] - self.pen[0])
        self.jump(1, point[1] - self.pen[1])

    def jump(self, heading, far):
        if far != 0:
            self.turn_to(heading)
            self.deeds.extend([("jump", part) for part in jumps_over(far)])
            self.pen = led(self.pen, (far, 0, 0))

    def go_to(self, point):
        self.turn_to(AHEAD.index((point[0] - self.pen[0], point[1] - self.pen[1])))
        number = 1
        if len(self.deeds) > 0 and self.deeds[-1][0] == "go":
            number = self.deeds.pop()[1] + 1
        self.deeds.append(("go", number))
        self.pen = led(self.pen, (1, 0, 0))


# A deed's number has at most 20 figures, and points may lie farther apart.
# Where the parts would be too many to write down, the jump is left whole.
def jumps_over(far):
    parts = abs(far) // GREATEST_NUMBER
    if parts > MOST_PARTS:
        return [far]
    sign = 1 if far > 0 else -1
    rest = far - sign * parts * GREATEST_NUMBER
    return [sign * GREATEST_NUMBER] * parts + ([rest] if rest != 0 else [])
