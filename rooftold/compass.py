"""Sides and directions (0 south, 1 east, 2 north, 3 west) and steps from place to place."""

ALL_SIDES = (0, 1, 2, 3)
STEPS = ((0, -1), (1, 0), (0, 1), (-1, 0))

# Where side 0, 1, 2 and 3 of a square begins, if one walks round it with the square on the left hand.
SIDE_STARTS = ((0, 0), (1, 0), (1, 1), (0, 1))


def left_of(direction):
    return (direction + 1) % 4


def opposite(direction):
    return (direction + 2) % 4


def right_of(direction):
    return (direction + 3) % 4


def moved(place, step):
    return (place[0] + step[0], place[1] + step[1])


def beyond(place, direction):
    return moved(place, STEPS[direction])


def side_start(square, side):
    return moved(square, SIDE_STARTS[side])


def side_end(square, side):
    return side_start(square, left_of(side))


# Places are told by rows from the south, in a row from the west.
def by_row(place):
    return (place[1], place[0])
