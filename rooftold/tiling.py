"""Tiles laid on faces in courses, from the eave up."""

GREATEST_MEASURE = 64


def is_size(W, H):
    return 2 <= W <= GREATEST_MEASURE and W % 2 == 0 and 1 <= H <= GREATEST_MEASURE


# Faces to the south and the north run along from west to east.
def runs_eastward(facing):
    return facing % 2 == 0


# How many triangles of a face lie so deep and so far along: what of a face its tiles rest on.
def places_on(face, roof):
    places = {}
    for triangle in face:
        i, j, side = triangle
        along = i if runs_eastward(roof.facings[triangle]) else j
        place = (roof.depths[(i, j)], along)
        places[place] = places.get(place, 0) + 1
    return places


# How many triangles lie under each tile, a tile being known by its course and its number in the course.
def tiles_over(places, W, H):
    tiles = {}
    for place, count in places.items():
        course = place[0] // H
        shift = W // 2 * (course % 2)
        tile = (course, (place[1] + shift) // W)
        tiles[tile] = tiles.get(tile, 0) + count
    return tiles


def whole_and_cut(places, W, H):
    counts = list(tiles_over(places, W, H).values())
    whole = counts.count(4 * W * H)
    return [whole, len(counts) - whole]


def course_count(places, H):
    return max([place[0] for place in places]) // H + 1


# Of each course: whole tiles, cut ones, triangles under them.
def course_rows(places, W, H):
    rows = [[0, 0, 0] for course in range(course_count(places, H))]
    for tile, count in tiles_over(places, W, H).items():
        row = rows[tile[0]]
        row[0 if count == 4 * W * H else 1] += 1
        row[2] += count
    return rows


def places_by_face(roof):
    return [places_on(face, roof) for face in roof.faces]


def whole_and_cut_together(faces, W, H):
    pairs = [whole_and_cut(places, W, H) for places in faces]
    return [sum([whole for whole, cut in pairs]), sum([cut for whole, cut in pairs])]


def roof_row(roof, W, H):
    faces = places_by_face(roof)
    return whole_and_cut_together(faces, W, H) + [max([course_count(places, H) for places in faces])]


# Fewest tiles, fewest cut, first place: in this order, so that the least of all is the one that's asked for.
def best_size_row(roof, sizes):
    faces = places_by_face(roof)
    wants = []
    for number, size in enumerate(sizes):
        whole, cut = whole_and_cut_together(faces, size[0], size[1])
        wants.append((whole + cut, cut, number))
    fewest, fewest_cut, first = min(wants)
    return [first, fewest - fewest_cut, fewest_cut]
