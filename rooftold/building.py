"""What becomes of a roof when its house is built on."""

from rooftold.compass import side_end, side_start

STAYS = 0
CHANGED = 1
NEW = 2
GONE = 3


def is_as_before(triangle, before, after):
    i, j, side = triangle
    if before.depths[(i, j)] != after.depths[(i, j)]:
        return False
    ends = [side_start((i, j), side), side_end((i, j), side)]
    return all([before.heights[end] == after.heights[end] for end in ends])


# Of a triangle of at least one of the two roofs.
def lot_of(triangle, before, after):
    if triangle not in before.facings:
        return NEW
    if triangle not in after.facings:
        return GONE
    if is_as_before(triangle, before, after):
        return STAYS
    return CHANGED


def change_row(before, after):
    triangles = dict(before.facings)
    triangles.update(after.facings)
    counts = [0, 0, 0, 0]
    for triangle in triangles:
        counts[lot_of(triangle, before, after)] += 1
    return counts


def face_stays(face, before, after):
    return all([lot_of(triangle, before, after) == STAYS for triangle in face])


def keeps_rows(before, after):
    return [[1 if face_stays(face, before, after) else 0] for face in before.faces]
