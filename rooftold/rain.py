"""Where the water of triangles ends, and how much of it walls and corners get."""

from rooftold.compass import ALL_SIDES, side_start
from rooftold.plans import walls_round
from rooftold.roofs import triangle_across

AT_EAVE = 0
AT_CORNER = 1


def foot_of(half, roof):
    corners = [side_start(half, side) for side in ALL_SIDES]
    low = [corner for corner in corners if roof.heights[corner] == roof.depths[half]]
    if len(low) == 1:
        return low[0]
    return None


def half_across(half, corner):
    return (2 * corner[0] - 1 - half[0], 2 * corner[1] - 1 - half[1])


# An end is (AT_EAVE, i, j, side) or (AT_CORNER, X, Y).
# Down a valley it's all one which triangle of the next half-cell the water comes to: its half-cell is a valley's too.
def water_end(triangle, roof):
    while True:
        half = (triangle[0], triangle[1])
        foot = foot_of(half, roof)
        if foot is None:
            leaving = (half[0], half[1], roof.facings[triangle])
            triangle = triangle_across(leaving)
            if triangle not in roof.facings:
                return (AT_EAVE, leaving[0], leaving[1], leaving[2])
        elif roof.heights[foot] == 0:
            return (AT_CORNER, foot[0], foot[1])
        else:
            below = half_across(half, foot)
            triangle = (below[0], below[1], triangle[2])


# A foot of wall is known by the point at which it begins, and so is the corner at which a wall begins.
def foot_at(end):
    cell = (end[1] // 2, end[2] // 2)
    if end[0] == AT_CORNER:
        return cell
    return side_start(cell, end[3])


def wall_numbers(walls):
    numbers = {}
    for number, feet in enumerate(walls):
        for foot in feet:
            numbers[foot] = number
    return numbers


def drop_row(triangle, roof):
    end = water_end(triangle, roof)
    return list(end) + [wall_numbers(walls_round(roof.cells))[foot_at(end)]]


def wall_rows(roof):
    walls = walls_round(roof.cells)
    numbers = wall_numbers(walls)
    rows = [[0, 0, len(feet)] for feet in walls]
    for triangle in roof.facings:
        end = water_end(triangle, roof)
        rows[numbers[foot_at(end)]][end[0]] += 1
    return rows
