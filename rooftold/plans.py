"""Houses as sets of cells (dicts of True), the walks along their walls, and the house that a text tells."""

from rooftold.compass import ALL_SIDES, beyond, by_row, left_of, side_start
from rooftold.refusals import NoHouse
from rooftold.texts import walks_told

CELLS_IN_A_ROW = 64
MOST_CELLS = 256


def feet_across_rows(walks):
    feet = {}
    for walk in walks:
        for number, corner in enumerate(walk):
            before = walk[number - 1]
            if corner[0] == before[0]:
                for y in range(min(corner[1], before[1]), max(corner[1], before[1])):
                    feet[(corner[0], y)] = True
    return feet


def cells_within(walks):
    feet = feet_across_rows(walks)
    cells = {}
    for y in range(CELLS_IN_A_ROW):
        inside = False
        for x in range(CELLS_IN_A_ROW):
            if (x, y) in feet:
                inside = not inside
            if inside:
                cells[(x, y)] = True
    return cells


def is_joined(cells):
    waiting = list(cells)[:1]
    reached = {}
    while waiting:
        cell = waiting.pop()
        if cell in cells and cell not in reached:
            reached[cell] = True
            for side in ALL_SIDES:
                waiting.append(beyond(cell, side))
    return len(reached) == len(cells)


def meets_in_a_point(cell, cells):
    for side in ALL_SIDES:
        near = beyond(cell, side)
        far = beyond(cell, left_of(side))
        if near not in cells and far not in cells and beyond(near, left_of(side)) in cells:
            return True
    return False


def is_house(cells):
    if len(cells) < 1 or len(cells) > MOST_CELLS:
        return False
    if any([meets_in_a_point(cell, cells) for cell in cells]):
        return False
    return is_joined(cells)


# In a house no two feet of wall begin at one point, so a point stands for the foot that begins there.
def headings_along_walls(cells):
    headings = {}
    for cell in cells:
        for side in ALL_SIDES:
            if beyond(cell, side) not in cells:
                headings[side_start(cell, side)] = left_of(side)
    return headings


# The start is told as a corner without a look: a walk's least point is one always.
def walk_from(start, headings, walked):
    corners = []
    point = start
    came = None
    while point not in walked:
        walked[point] = True
        heading = headings[point]
        if heading != came:
            corners.append(point)
        came = heading
        point = beyond(point, heading)
    return corners


def walks_round(cells):
    headings = headings_along_walls(cells)
    walks = []
    walked = {}
    for point in sorted(headings, key=by_row):
        if point not in walked:
            walks.append(walk_from(point, headings, walked))
    return walks


def feet_between(corner, following, headings):
    feet = []
    point = corner
    while point != following:
        feet.append(point)
        point = beyond(point, headings[point])
    return feet


# Of each wall, in order, the points at which its feet begin: the first of them is its corner.
def walls_round(cells):
    headings = headings_along_walls(cells)
    walls = []
    for walk in walks_round(cells):
        for number, corner in enumerate(walk):
            walls.append(feet_between(corner, walk[(number + 1) % len(walk)], headings))
    return walls


# A house has one text alone. So whatever cells are found within walks that are told wrong, the walks
# round these cells are others, and how they are wrong needs no look.
def house_told(t):
    walks = walks_told(t)
    cells = cells_within(walks)
    if not is_house(cells) or walks_round(cells) != walks:
        raise NoHouse()
    return cells
