"""The pieces in which faces meet, and the lines that they make: ridges, hips, valleys."""

from rooftold.compass import STEPS, by_row, moved, opposite, side_end, side_start
from rooftold.roofs import triangle_across, triangle_on_left

RIDGE = 0
HIP = 1
VALLEY = 2


# In sixths of half a foot, for a triangle's middle lies two thirds of the way from the half-cell's to the side.
def middle_of(triangle):
    i, j, side = triangle
    step = STEPS[side]
    return (6 * i + 3 + 2 * step[0], 6 * j + 3 + 2 * step[1])


def kind_between(triangle, other, facings):
    facing = facings[triangle]
    if facings[other] == opposite(facing):
        return RIDGE
    own = middle_of(triangle)
    to = middle_of(other)
    ahead = STEPS[facing]
    if (to[0] - own[0]) * ahead[0] + (to[1] - own[1]) * ahead[1] > 0:
        return VALLEY
    return HIP


def doubled(point):
    return (2 * point[0], 2 * point[1])


# Ends are in quarters of a foot, so that half-cells' middles are whole.
def ends_within(triangle):
    half = (triangle[0], triangle[1])
    return [moved(doubled(half), (1, 1)), doubled(side_end(half, triangle[2]))]


def ends_across(triangle):
    half = (triangle[0], triangle[1])
    return [doubled(side_start(half, triangle[2])), doubled(side_end(half, triangle[2]))]


# A piece is (lesser face, greater face, kind, its from, the step to its to): what goes straight on
# differs in its from alone.
def piece_between(triangle, other, ends, roof):
    number = roof.numbers[triangle]
    beside = roof.numbers[other]
    start, end = sorted(ends, key=by_row)
    step = (end[0] - start[0], end[1] - start[1])
    return (min(number, beside), max(number, beside), kind_between(triangle, other, roof.facings), start, step)


# From either side of a side the same piece is found: the dict keeps it once.
def pieces_of(roof):
    pieces = {}
    for triangle in roof.numbers:
        left = triangle_on_left(triangle)
        if roof.numbers[left] != roof.numbers[triangle]:
            pieces[piece_between(triangle, left, ends_within(triangle), roof)] = True
        across = triangle_across(triangle)
        if across in roof.numbers and roof.numbers[across] != roof.numbers[triangle]:
            pieces[piece_between(triangle, across, ends_across(triangle), roof)] = True
    return pieces


def piece_behind(piece):
    lesser, greater, kind, start, step = piece
    return (lesser, greater, kind, (start[0] - step[0], start[1] - step[1]), step)


def line_from(piece, pieces):
    lesser, greater, kind, start, step = piece
    end = moved(start, step)
    while (lesser, greater, kind, end, step) in pieces:
        end = moved(end, step)
    return [kind, lesser, greater, start[0] // 2, start[1] // 2, end[0] // 2, end[1] // 2]


def line_order(row):
    return (row[1], row[2], row[4], row[3])


def line_rows(roof):
    pieces = pieces_of(roof)
    rows = [line_from(piece, pieces) for piece in pieces if piece_behind(piece) not in pieces]
    return sorted(rows, key=line_order)
