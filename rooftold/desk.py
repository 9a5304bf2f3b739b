"""The calls. Each gives back a list of whole numbers; a refusal is its number alone."""

from rooftold.plans import house_told
from rooftold.refusals import NoHouse
from rooftold.ridges import line_rows
from rooftold.roofs import Roof, face_rows

GREATEST_HALF = 127
GREATEST_SIDE = 3


def is_within_bounds(i, j, s):
    return i <= GREATEST_HALF and j <= GREATEST_HALF and s <= GREATEST_SIDE


def counted(rows):
    answer = [len(rows)]
    for row in rows:
        answer.extend(row)
    return answer


def faces(t):
    try:
        cells = house_told(t)
    except NoHouse:
        return [-1]
    return counted(face_rows(Roof(cells)))


def face(i, j, s, t):
    if not is_within_bounds(i, j, s):
        return [-3]
    try:
        cells = house_told(t)
    except NoHouse:
        return [-1]
    if (i // 2, j // 2) not in cells:
        return [-5]
    return [Roof(cells).numbers[(i, j, s)]]


def lines(t):
    try:
        cells = house_told(t)
    except NoHouse:
        return [-1]
    return counted(line_rows(Roof(cells)))
