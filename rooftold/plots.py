"""Cells that may be built on to a house without a touch to one of its faces."""

from rooftold.compass import ALL_SIDES, beyond, by_row, side_end, side_start
from rooftold.plans import CELLS_IN_A_ROW, MOST_CELLS, meets_in_a_point


def is_in_plan(cell):
    return 0 <= cell[0] < CELLS_IN_A_ROW and 0 <= cell[1] < CELLS_IN_A_ROW


# What lies beside a house is joined to it; and of two cells that then meet in a point alone, one is the new cell.
def cells_to_build(cells):
    if len(cells) == MOST_CELLS:
        return []
    found = {}
    for cell in cells:
        for side in ALL_SIDES:
            near = beyond(cell, side)
            if near not in cells and is_in_plan(near) and not meets_in_a_point(near, cells):
                found[near] = True
    return sorted(found, key=by_row)


# The squares of half-cells that the house would have to fill for a half-cell to lie deeper, or a point to be higher.
def next_square_about_half(half, depth):
    reach = depth + 1
    return ((half[0] - reach, half[1] - reach), (half[0] + reach, half[1] + reach))


def next_square_about_point(point, height):
    reach = height + 1
    return ((point[0] - reach, point[1] - reach), (point[0] + height, point[1] + height))


def next_squares_over(face, roof):
    squares = {}
    for i, j, side in face:
        half = (i, j)
        squares[next_square_about_half(half, roof.depths[half])] = True
        for point in (side_start(half, side), side_end(half, side)):
            squares[next_square_about_point(point, roof.heights[point])] = True
    return squares


def cells_wanting(low, high, cells):
    wanting = []
    for x in range(low[0] // 2, high[0] // 2 + 1):
        for y in range(low[1] // 2, high[1] // 2 + 1):
            if (x, y) not in cells:
                wanting.append((x, y))
    return wanting


# With one more cell nothing gets lower, and something gets higher just if its next square wants this cell alone.
def cells_that_touch(face, roof):
    touching = {}
    for low, high in next_squares_over(face, roof):
        wanting = cells_wanting(low, high, roof.cells)
        if len(wanting) == 1:
            touching[wanting[0]] = True
    return touching


def free_cells(face, roof):
    touching = cells_that_touch(face, roof)
    return [cell for cell in cells_to_build(roof.cells) if cell not in touching]
