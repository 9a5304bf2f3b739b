"""How deep the half-cells of a house lie, and how high the roof is over points."""

from rooftold.compass import ALL_SIDES, by_row, moved, side_start

QUARTERS = ((0, 0), (1, 0), (0, 1), (1, 1))
HALVES_ABOUT = ((-1, -1), (0, -1), (1, -1), (-1, 0), (1, 0), (-1, 1), (0, 1), (1, 1))
HALVES_AT_A_POINT = ((-1, -1), (0, -1), (-1, 0), (0, 0))


def half_cells_of(cells):
    found = []
    for cell in cells:
        for quarter in QUARTERS:
            found.append(moved((2 * cell[0], 2 * cell[1]), quarter))
    return sorted(found, key=by_row)


def is_deeper(half, layer):
    for step in HALVES_ABOUT:
        if moved(half, step) not in layer:
            return False
    return True


# All half-cells up to k + 1 away are in the house just if those about this one have all up to k away in it:
# so each layer is made from the one above it.
def depths_of(cells):
    depths = {}
    layer = half_cells_of(cells)
    depth = 0
    while layer:
        for half in layer:
            depths[half] = depth
        layer_above = dict([(half, True) for half in layer])
        layer = [half for half in layer if is_deeper(half, layer_above)]
        depth += 1
    return depths


# The square of half-cells about a point is covered by the squares about the four half-cells at it.
def height_over(point, depths):
    return min([depths.get(moved(point, step), -1) + 1 for step in HALVES_AT_A_POINT])


def heights_of(depths):
    heights = {}
    for half in depths:
        for side in ALL_SIDES:
            point = side_start(half, side)
            if point not in heights:
                heights[point] = height_over(point, depths)
    return heights
