"""Rooms: the cells that a picture shuts in, the walls round them, and rings."""

from penwright.errors import NoRoom
from penwright.pictures import check_picture, picture_box
from penwright.trails import picture_pieces, strokes_at, trails_of

MOST_CELLS = 2500


def rooms_of(picture):
    check_picture(picture)
    box = picture_box(picture)
    if box is None:
        return []
    check_size(box)
    strokes = dict([(stroke, True) for stroke in picture])
    unseen = dict([(cell, True) for cell in cells_round(box)])
    # From a cell beside the box one can go on for ever, and all round the box.
    take_cells((box[0] - 1, box[1] - 1), strokes, unseen)
    rooms = []
    for cell in cells_round(box):
        if cell in unseen:
            rooms.append(take_cells(cell, strokes, unseen))
    return rooms


def check_size(box):
    if (box[2] - box[0] + 2) * (box[3] - box[1] + 2) > MOST_CELLS:
        raise NoRoom("the picture is too wide or too high")


# The cells of the box and those beside it, rising.
def cells_round(box):
    cells = []
    for x in range(box[0] - 1, box[2] + 1):
        cells.extend([(x, y) for y in range(box[1] - 1, box[3] + 1)])
    return cells


# All unseen cells to which one can go from an unseen one, rising; they are
# unseen no longer.
def take_cells(cell, strokes, unseen):
    unseen.pop(cell)
    taken = [cell]
    place = 0
    while place < len(taken):
        here = taken[place]
        for near in neighbours_of(here, strokes):
            if near in unseen:
                unseen.pop(near)
                taken.append(near)
        place = place + 1
    return sorted(taken)


def neighbours_of(cell, strokes):
    return [side[0] for side in sides_of_cell(cell) if side[1] not in strokes]


# Each neighbour, and the stroke that would lie between.
def sides_of_cell(cell):
    x = cell[0]
    y = cell[1]
    east = ((x + 1, y), (x + 1, y, 1))
    north = ((x, y + 1), (x, y + 1, 0))
    west = ((x - 1, y), (x, y, 1))
    south = ((x, y - 1), (x, y, 0))
    return (east, north, west, south)


def room_at(picture, cell):
    return numbers_of_cells(rooms_of(picture)).get(cell)


def numbers_of_cells(rooms):
    numbers = {}
    for number in range(len(rooms)):
        for cell in rooms[number]:
            numbers[cell] = number
    return numbers


def walls_of(picture):
    rooms = rooms_of(picture)
    numbers = numbers_of_cells(rooms)
    walls = [[] for room in rooms]
    for stroke in picture:
        sides = [numbers.get(cell) for cell in cells_beside(stroke)]
        if sides[0] != sides[1]:
            for number in sides:
                if number is not None:
                    walls[number].append(stroke)
    return [tuple(strokes) for strokes in walls]


def cells_beside(stroke):
    x = stroke[0]
    y = stroke[1]
    if stroke[2] == 0:
        return ((x, y - 1), (x, y))
    return ((x - 1, y), (x, y))


def is_ring(picture):
    if len(picture_pieces(picture)) != 1:
        return False
    return all([len(strokes) == 2 for strokes in strokes_at(picture).values()])


def area_of(picture):
    if not is_ring(picture):
        return None
    # A ring is one trail, which comes back to its first point.
    points = trails_of(picture)[0]
    return abs(sum([crossed(points[place - 1], points[place]) for place in range(1, len(points))])) // 2


def crossed(point, other):
    return point[0] * other[1] - point[1] * other[0]
