"""Tiles laid on faces in courses, from the eave up."""

GREATEST_MEASURE = 64


def is_size(W, H):
    return 2 <= W <= GREATEST_MEASURE and W % 2 == 0 and 1 <= H <= GREATEST_MEASURE


# Faces to the south and the north run along from west to east.
def runs_eastward(facing):
    return facing % 2 == 0


# How many triangles of a face lie so deep and so far along: what of a face its tiles rest on.
def places_on(face, roof):
    places = {}
    for triangle in face:
        i, j, side = triangle
        along = i if runs_eastward(roof.facings[triangle]) else j
        place = (roof.depths[(i, j)], along)
        places[place] = places.get(place, 0) + 1
    return places


# How many triangles lie under each tile, a tile being known by its course and its number in the course.
def tiles_over(places, W, H):
    tiles = {}
    for place, count in places.items():
        course = place[0] // H
        shift = W // 2 * (course % 2)
        tile = (course, (place[1] + shift) // W)
        tiles[tile] = tiles.get(tile, 0) + count
    return tiles


def whole_and_cut(places, W, H):
    counts = list(tiles_over(places, W, H).values())
    whole = counts.count(4 * W * H)
    return [whole, len(counts) - whole]
