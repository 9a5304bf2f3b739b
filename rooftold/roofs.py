"""The triangles of a roof, which way they face, and the faces that they make."""

from rooftold.compass import ALL_SIDES, beyond, left_of, opposite, right_of, side_end, side_start
from rooftold.heights import depths_of, heights_of


# cells: the house; depths: of each half-cell how deep it lies; heights: of each corner of these how high it is;
# facings: of each triangle which way it faces; numbers: of each triangle its face's number;
# faces: the triangles of each face.
# The facings are in order by j, then i, then s: the faces' numbers rest on that.
class Roof:
    def __init__(self, cells):
        self.cells = cells
        self.depths = depths_of(cells)
        self.heights = heights_of(self.depths)
        self.facings = facings_of(self.depths, self.heights)
        self.numbers = numbers_of(self.facings)
        self.faces = faces_of(self.numbers)


def facing_of(half, side, depth, heights):
    start_is_low = heights[side_start(half, side)] == depth
    end_is_low = heights[side_end(half, side)] == depth
    if start_is_low and end_is_low:
        return side
    if end_is_low:
        return left_of(side)
    if start_is_low:
        return right_of(side)
    return opposite(side)


def facings_of(depths, heights):
    facings = {}
    for half, depth in depths.items():
        for side in ALL_SIDES:
            facings[(half[0], half[1], side)] = facing_of(half, side, depth, heights)
    return facings


def triangle_across(triangle):
    i, j, side = triangle
    across = beyond((i, j), side)
    return (across[0], across[1], opposite(side))


def triangle_on_left(triangle):
    i, j, side = triangle
    return (i, j, left_of(side))


def triangle_on_right(triangle):
    i, j, side = triangle
    return (i, j, right_of(side))


def number_face(first, number, facings, numbers):
    facing = facings[first]
    waiting = [first]
    while waiting:
        triangle = waiting.pop()
        if facings.get(triangle) == facing and triangle not in numbers:
            numbers[triangle] = number
            waiting.append(triangle_on_left(triangle))
            waiting.append(triangle_on_right(triangle))
            waiting.append(triangle_across(triangle))


def numbers_of(facings):
    numbers = {}
    count = 0
    for triangle in facings:
        if triangle not in numbers:
            number_face(triangle, count, facings, numbers)
            count += 1
    return numbers


# Faces are numbered one behind the other, so a new number is the next one.
def faces_of(numbers):
    faces = []
    for triangle, number in numbers.items():
        if number == len(faces):
            faces.append([])
        faces[number].append(triangle)
    return faces


def is_at_eave(triangle, facings):
    return facings[triangle] == triangle[2] and triangle_across(triangle) not in facings


# The first triangle that comes of a face is its first one, for triangles come in the order of the faces.
def face_rows(roof):
    rows = []
    for triangle in roof.facings:
        number = roof.numbers[triangle]
        if number == len(rows):
            rows.append([roof.facings[triangle], 0, 0, triangle[0], triangle[1], triangle[2]])
        rows[number][1] += 1
        if is_at_eave(triangle, roof.facings):
            rows[number][2] += 1
    return rows
