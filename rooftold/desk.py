"""The calls. Each gives back a list of whole numbers; a refusal is its number alone."""

from rooftold.building import change_row, keeps_rows, lot_of
from rooftold.plans import house_told
from rooftold.plots import free_cells
from rooftold.rain import drop_row, wall_rows
from rooftold.refusals import NoFace, NoSize, OutOfBounds, Outside, answer_or_refusal
from rooftold.ridges import line_rows
from rooftold.roofs import Roof, face_rows
from rooftold.tiling import best_size_row, course_rows, is_size, places_on, roof_row, whole_and_cut

GREATEST_HALF = 127
GREATEST_SIDE = 3


def check_triangle(i, j, s):
    if i > GREATEST_HALF or j > GREATEST_HALF or s > GREATEST_SIDE:
        raise OutOfBounds()


def check_size(W, H):
    if not is_size(W, H):
        raise OutOfBounds()


def roof_told(t):
    return Roof(house_told(t))


def roof_with_triangle(i, j, s, t):
    check_triangle(i, j, s)
    told = roof_told(t)
    if (i, j) not in told.depths:
        raise Outside()
    return told


def lot_told(i, j, s, t, u):
    check_triangle(i, j, s)
    before = roof_told(t)
    after = roof_told(u)
    if (i, j) not in before.depths and (i, j) not in after.depths:
        raise Outside()
    return lot_of((i, j, s), before, after)


def roof_with_face(k, t):
    told = roof_told(t)
    if k >= len(told.faces):
        raise NoFace()
    return told


def places_to_tile(k, W, H, t):
    check_size(W, H)
    told = roof_with_face(k, t)
    return places_on(told.faces[k], told)


def free_cells_told(k, t):
    told = roof_with_face(k, t)
    return free_cells(told.faces[k], told)


def roof_to_tile(W, H, t):
    check_size(W, H)
    return roof_told(t)


def roof_to_choose_for(pairs, t):
    for W, H in pairs:
        check_size(W, H)
    told = roof_told(t)
    if len(pairs) == 0:
        raise NoSize()
    return told


def in_pairs(numbers):
    return [(numbers[n], numbers[n + 1]) for n in range(0, len(numbers), 2)]


def counted(rows):
    answer = [len(rows)]
    for row in rows:
        answer.extend(row)
    return answer


def faces(t):
    return answer_or_refusal(lambda: counted(face_rows(roof_told(t))))


def face(i, j, s, t):
    return answer_or_refusal(lambda: [roof_with_triangle(i, j, s, t).numbers[(i, j, s)]])


def lines(t):
    return answer_or_refusal(lambda: counted(line_rows(roof_told(t))))


def drop(i, j, s, t):
    return answer_or_refusal(lambda: drop_row((i, j, s), roof_with_triangle(i, j, s, t)))


def walls(t):
    return answer_or_refusal(lambda: counted(wall_rows(roof_told(t))))


def tiles(k, W, H, t):
    return answer_or_refusal(lambda: whole_and_cut(places_to_tile(k, W, H, t), W, H))


def courses(k, W, H, t):
    return answer_or_refusal(lambda: counted(course_rows(places_to_tile(k, W, H, t), W, H)))


def roof(W, H, t):
    return answer_or_refusal(lambda: roof_row(roof_to_tile(W, H, t), W, H))


def size(t, sizes):
    pairs = in_pairs(sizes)
    return answer_or_refusal(lambda: best_size_row(roof_to_choose_for(pairs, t), pairs))


def change(t, u):
    return answer_or_refusal(lambda: change_row(roof_told(t), roof_told(u)))


def lot(i, j, s, t, u):
    return answer_or_refusal(lambda: [lot_told(i, j, s, t, u)])


def keeps(t, u):
    return answer_or_refusal(lambda: counted(keeps_rows(roof_told(t), roof_told(u))))


def free(k, t):
    return answer_or_refusal(lambda: counted(free_cells_told(k, t)))
