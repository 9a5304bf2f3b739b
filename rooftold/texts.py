"""Reading a house's text, byte by byte: its lines, their corners, the numbers in these."""

from rooftold.refusals import NoHouse

LINE_FEED = 10
BLANK = 32
COMMA = 44
DIGIT_ZERO = 48
DIGIT_NINE = 57
GREATEST_NUMBER = 64
MOST_DIGITS = 2
FEWEST_CORNERS = 4


def parts_between(row, mark):
    parts = []
    part = []
    for value in row:
        if value == mark:
            parts.append(part)
            part = []
        else:
            part.append(value)
    parts.append(part)
    return parts


def digit_told(value):
    if value < DIGIT_ZERO or value > DIGIT_NINE:
        raise NoHouse()
    return value - DIGIT_ZERO


def number_told(row):
    if len(row) == 0 or len(row) > MOST_DIGITS:
        raise NoHouse()
    if len(row) > 1 and row[0] == DIGIT_ZERO:
        raise NoHouse()
    number = 0
    for value in row:
        number = number * 10 + digit_told(value)
    if number > GREATEST_NUMBER:
        raise NoHouse()
    return number


def corner_told(row):
    numbers = [number_told(part) for part in parts_between(row, COMMA)]
    if len(numbers) != 2:
        raise NoHouse()
    return (numbers[0], numbers[1])


def walk_told(row):
    corners = [corner_told(part) for part in parts_between(row, BLANK)]
    if len(corners) < FEWEST_CORNERS:
        raise NoHouse()
    return corners


def walks_told(t):
    rows = parts_between(t, LINE_FEED)
    # Each line ends in a line feed, so behind the last of these nothing may stand.
    rest = rows.pop()
    if len(rest) > 0 or len(rows) == 0:
        raise NoHouse()
    return [walk_told(row) for row in rows]
