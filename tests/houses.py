"""Houses for the tests, and the document's words over again, as literally as they can be written.

Nothing here is taken from the program: what it answers is held against what stands here.
"""

import random
from collections import Counter

STEPS = {0: (0, -1), 1: (1, 0), 2: (0, 1), 3: (-1, 0)}

# A house beside others, where a call takes two.
SHED = list(b"0,0 2,0 2,1 0,1\n")

# Texts written by hand, with the number of cells and of feet of wall that the plan has.
HOUSES = {
    "one cell": ("0,0 1,0 1,1 0,1\n", 1, 4),
    "bar": ("2,3 7,3 7,4 2,4\n", 5, 12),
    "block": ("0,0 4,0 4,2 0,2\n", 8, 12),
    "L": ("0,0 4,0 4,2 2,2 2,3 0,3\n", 10, 14),
    "T": ("2,0 3,0 3,2 5,2 5,3 0,3 0,2 2,2\n", 7, 16),
    "U": ("0,0 5,0 5,4 3,4 3,2 2,2 2,4 0,4\n", 18, 22),
    "cross": ("3,0 6,0 6,3 9,3 9,6 6,6 6,9 3,9 3,6 0,6 0,3 3,3\n", 45, 36),
    "court": ("0,0 3,0 3,3 0,3\n1,1 1,2 2,2 2,1\n", 8, 16),
    "wide court": ("5,5 13,5 13,12 5,12\n8,7 8,10 10,10 10,7\n", 50, 40),
    "courts": ("0,0 9,0 9,5 0,5\n6,1 6,4 8,4 8,1\n2,2 2,3 4,3 4,2\n", 37, 44),
    "courts in a row": ("0,0 7,0 7,3 0,3\n1,1 1,2 2,2 2,1\n3,1 3,2 4,2 4,1\n5,1 5,2 6,2 6,1\n", 18, 32),
    "256 cells": ("0,0 16,0 16,16 0,16\n", 256, 64),
    "south and east edge": ("0,0 64,0 64,64 63,64 63,1 0,1\n", 127, 256),
    "last cell": ("63,63 64,63 64,64 63,64\n", 1, 4),
    "north-west corner": ("0,61 2,61 2,63 3,63 3,64 0,64\n", 7, 12),
}


def house_bytes(name):
    return list(HOUSES[name][0].encode())


def walks_in(name):
    return [[tuple(map(int, corner.split(","))) for corner in line.split(" ")]
            for line in HOUSES[name][0].splitlines()]


def cells_of(name):
    """The cells of a house written by hand: those whose middle lies within its walks."""
    walks = walks_in(name)
    return {(x, y) for x in range(64) for y in range(64) if sum(walls_west(walk, x, y) for walk in walks) % 2}


def walls_west(walk, x, y):
    return sum(a == u and a <= x and min(b, v) <= y < max(b, v) for (a, b), (u, v) in zip(walk, walk[1:] + walk[:1]))


def in_rows(answer, width):
    """An answer that begins with a count, as a list of so many tuples."""
    assert len(answer) == 1 + answer[0] * width, answer
    return [tuple(answer[1 + n * width:1 + (n + 1) * width]) for n in range(answer[0])]


def answers_over(call, triangles, pool, *texts):
    """What a call of i, j, s and one text or two answers for each of these triangles."""
    columns = [[triangle[n] for triangle in triangles] for n in range(3)] + [[text] * len(triangles) for text in texts]
    return dict(zip(triangles, pool.map(call, *columns, chunksize=128)))


def every_call(desk, text):
    """Each call's answer, all else than the text being right; that of a pair with the text in either place or both."""
    return [desk.faces(text), desk.face(0, 0, 0, text), desk.lines(text), desk.drop(0, 0, 0, text), desk.walls(text),
            desk.tiles(0, 2, 1, text), desk.courses(0, 2, 1, text), desk.roof(2, 1, text),
            desk.size(text, [2, 1, 4, 2, 2, 1]),
            desk.change(text, text), desk.change(text, SHED), desk.change(SHED, text),
            desk.lot(0, 0, 0, text, text), desk.lot(0, 0, 0, text, SHED), desk.lot(0, 0, 0, SHED, text),
            desk.keeps(text, text), desk.keeps(text, SHED), desk.keeps(SHED, text), desk.free(0, text)]


# --- plans

def all_triangles(cells):
    return [(2 * x + a, 2 * y + b, s) for x, y in sorted(cells) for a in (0, 1) for b in (0, 1) for s in range(4)]


def small_houses(wide, high):
    """Every house within so many cells."""
    places = [(x, y) for y in range(high) for x in range(wide)]
    chosen = [{place for n, place in enumerate(places) if number >> n & 1} for number in range(1, 1 << len(places))]
    return [cells for cells in chosen if is_house(cells)]


def cells_in_drawing(rows):
    """Cells of a drawing, its last row being y = 0."""
    return {(x, y) for y, row in enumerate(reversed(rows)) for x, sign in enumerate(row) if sign == "#"}


def is_house(cells):
    if not 1 <= len(cells) <= 256:
        return False
    for x, y in cells:
        for e in (-1, 1):
            if (x + e, y + 1) in cells and (x + e, y) not in cells and (x, y + 1) not in cells:
                return False
    reached = {min(cells)}
    edge = set(reached)
    while edge:
        edge = {(x + a, y + b) for x, y in edge for a, b in STEPS.values()} & cells - reached
        reached |= edge
    return reached == cells


def cells_beside(cells):
    """The cells of the plan that aren't in the house and are beside one of its cells."""
    near = {(x + a, y + b) for x, y in cells for a, b in STEPS.values()} - cells
    return {(x, y) for x, y in near if 0 <= x <= 63 and 0 <= y <= 63}


def cell_beside(point, heading, turn):
    """The cell that lies ahead of a point, on the left (turn 0) or on the right (turn 1)."""
    x, y = point
    around = [(x - 1, y - 1), (x, y - 1), (x, y), (x - 1, y)]
    return around[(heading + 1 - turn) % 4]


def walk_on(point, heading, cells, tightly):
    """Where a walk heads behind a point: at a point where cells meet, tightly round its own cell or not."""
    ahead_left = cell_beside(point, heading, 0) in cells
    ahead_right = cell_beside(point, heading, 1) in cells
    if ahead_right and not (tightly and not ahead_left):
        return (heading + 3) % 4
    if ahead_left:
        return heading
    return (heading + 1) % 4


def walks_of(cells, tightly=False):
    feet = {}
    for x, y in cells:
        for side, start in enumerate([(x, y), (x + 1, y), (x + 1, y + 1), (x, y + 1)]):
            if (x + STEPS[side][0], y + STEPS[side][1]) not in cells:
                feet[(start, (side + 1) % 4)] = True
    walks = []
    for start, heading in sorted(feet, key=lambda foot: (foot[0][1], foot[0][0], foot[1])):
        corners = []
        point = start
        while feet.pop((point, heading), False):
            point = (point[0] + STEPS[heading][0], point[1] + STEPS[heading][1])
            turned = walk_on(point, heading, cells, tightly)
            if turned != heading:
                corners.append(point)
            heading = turned
        if corners:
            walks.append(corners[-1:] + corners[:-1])
    return walks


def text_of_walks(walks):
    return list("".join(" ".join(f"{x},{y}" for x, y in walk) + "\n" for walk in walks).encode())


def text_of(cells):
    return text_of_walks(walks_of(cells))


def grown_house(seed, count, wide, high, west=0, south=0):
    """A house of at most so many cells, grown cell by cell; the same for the same seed."""
    chance = random.Random(seed)
    cells = {(west + wide // 2, south + high // 2)}
    for tries in range(count * 6):
        x, y = chance.choice(sorted(cells))
        a, b = STEPS[chance.randrange(4)]
        cell = (x + a, y + b)
        if len(cells) < count and west <= cell[0] < west + wide and south <= cell[1] < south + high:
            if is_house(cells | {cell}):
                cells.add(cell)
    return cells


def block(x, y, wide, high):
    return {(x + a, y + b) for a in range(wide) for b in range(high)}


def built_house(seed):
    """A house of a few blocks, some with a court broken into them; the same for the same seed."""
    chance = random.Random(seed)
    cells = set()
    while not is_house(cells):
        cells = set()
        for part in range(chance.randint(2, 5)):
            cells |= block(chance.randrange(12), chance.randrange(12), chance.randint(1, 8), chance.randint(1, 8))
        if seed % 2:
            cells -= block(chance.randint(2, 9), chance.randint(2, 9), chance.randint(1, 3), chance.randint(1, 3))
    return cells


def stairs():
    """A house of 256 cells at most with nearly as many corners as there can be: two flights of steps."""
    lower = {(n, n) for n in range(64)} | {(n + 1, n) for n in range(63)}
    upper = {(n, n + 4) for n in range(60)} | {(n + 1, n + 4) for n in range(59)}
    return lower | upper | {(60, 63), (61, 63), (62, 63)}


def comb():
    """A house of 256 cells with a tooth at every other foot, as wide as the plan."""
    return block(0, 0, 64, 1) | {(x, y) for x in range(0, 64, 2) for y in range(1, 7)}


# --- heights, triangles, faces

class LiteralHeights:
    """The words on how deep half-cells lie and how high points are, told over a set of cells."""

    def __init__(self, cells):
        self.cells = cells
        self.halves = sorted(((2 * x + a, 2 * y + b) for x, y in cells for a in (0, 1) for b in (0, 1)),
                             key=lambda half: (half[1], half[0]))
        self.in_house = set(self.halves)
        self.high = {}
        self.deep = {half: self.depth(*half) for half in self.halves}

    def all_in(self, i_from, i_to, j_from, j_to):
        return all((i, j) in self.in_house for i in range(i_from, i_to + 1) for j in range(j_from, j_to + 1))

    def height(self, x, y):
        if (x, y) not in self.high:
            h = 0
            while self.all_in(x - h - 1, x + h, y - h - 1, y + h):
                h += 1
            self.high[(x, y)] = h
        return self.high[(x, y)]

    def depth(self, i, j):
        k = 0
        while self.all_in(i - k - 1, i + k + 1, j - k - 1, j + k + 1):
            k += 1
        return k


class LiteralRoof(LiteralHeights):
    """The words from triangles on to what's built on, told over a set of cells."""

    def __init__(self, cells):
        super().__init__(cells)
        self.triangles = [(i, j, s) for i, j in self.halves for s in range(4)]
        self.faces_to = {triangle: self.facing(*triangle) for triangle in self.triangles}
        self.faces = self.make_faces()
        self.number = {triangle: n for n, face in enumerate(self.faces) for triangle in face}
        # Of each wall its corner and the next one, in feet.
        self.walls = [(corner, walk[(n + 1) % len(walk)]) for walk in walks_of(cells) for n, corner in enumerate(walk)]

    @staticmethod
    def ends(i, j, s):
        """The lesser end of a side (by Y, then by X), then the other."""
        return {0: ((i, j), (i + 1, j)), 1: ((i + 1, j), (i + 1, j + 1)),
                2: ((i, j + 1), (i + 1, j + 1)), 3: ((i, j), (i, j + 1))}[s]

    def facing(self, i, j, s):
        k = self.deep[(i, j)]
        heights = [self.height(*end) for end in self.ends(i, j, s)]
        assert set(heights) <= {k, k + 1}
        if heights == [k, k]:
            return s
        if heights == [k + 1, k + 1]:
            return {0: 2, 1: 3, 2: 0, 3: 1}[s]
        if s in (0, 2):
            return 3 if heights[0] == k else 1
        return 0 if heights[0] == k else 2

    def beside(self, i, j, s):
        found = [(i, j, (s + 1) % 4), (i, j, (s - 1) % 4)]
        other = (i + STEPS[s][0], j + STEPS[s][1])
        if other in self.in_house:
            found.append(other + ((s + 2) % 4,))
        return found

    def make_faces(self):
        faces = []
        left = set(self.triangles)
        while left:
            first = min(left, key=lambda triangle: (triangle[1], triangle[0], triangle[2]))
            face = {first}
            edge = {first}
            while edge:
                edge = {near for triangle in edge for near in self.beside(*triangle)
                        if self.faces_to[near] == self.faces_to[first]} - face
                face |= edge
            faces.append(face)
            left -= face
        return faces

    def is_at_eave(self, i, j, s):
        beyond = (i + STEPS[s][0], j + STEPS[s][1])
        return self.faces_to[(i, j, s)] == s and beyond not in self.in_house

    def faces_answer(self):
        answer = [len(self.faces)]
        for face in self.faces:
            i, j, s = min(face, key=lambda triangle: (triangle[1], triangle[0], triangle[2]))
            eaves = [triangle for triangle in face if self.is_at_eave(*triangle)]
            answer += [self.faces_to[(i, j, s)], len(face), len(eaves), i, j, s]
        return answer

    # --- lines, in quarters of a foot till they are told

    def piece_ends(self, one, other):
        if one[:2] != other[:2]:
            return frozenset((2 * x, 2 * y) for x, y in self.ends(*one))
        corner = set(self.ends(*one)) & set(self.ends(*other))
        (x, y), = corner
        return frozenset([(2 * x, 2 * y), (2 * one[0] + 1, 2 * one[1] + 1)])

    def kind(self, one, other):
        f, g = self.faces_to[one], self.faces_to[other]
        if (f - g) % 4 == 2:
            return 0
        seen = {self.runs_toward(one, other), self.runs_toward(other, one)}
        assert len(seen) == 1, "it comes to the same from either"
        return 2 if seen == {True} else 1

    def runs_toward(self, one, other):
        a, b = STEPS[self.faces_to[one]]
        x, y = self.middle(*one)
        u, v = self.middle(*other)
        return (u - x) * a + (v - y) * b > 0

    @staticmethod
    def middle(i, j, s):
        """The three corners' sum: the side's ends and the half-cell's middle, doubled."""
        ends = LiteralRoof.ends(i, j, s)
        return tuple(2 * ends[0][n] + 2 * ends[1][n] + 2 * (i, j)[n] + 1 for n in (0, 1))

    def pieces(self):
        found = {}
        for one in self.triangles:
            for other in self.beside(*one):
                pair = sorted([self.number[one], self.number[other]])
                if pair[0] != pair[1]:
                    found.setdefault((self.kind(one, other), *pair), set()).add(self.piece_ends(one, other))
        return found

    def lines_answer(self):
        rows = []
        for (kind, lesser, greater), pieces in self.pieces().items():
            for start, end in rows_joined(pieces):
                assert all(number % 2 == 0 for number in start + end), "its ends are points"
                rows.append((kind, lesser, greater, *(number // 2 for number in start + end)))
        rows.sort(key=lambda row: (row[1], row[2], row[4], row[3]))
        return [len(rows)] + [number for row in rows for number in row]

    # --- rain

    def valley_foot(self, i, j):
        """The foot of a valley's half-cell; None, if it's none."""
        corners = [(i, j), (i + 1, j), (i, j + 1), (i + 1, j + 1)]
        low = [corner for corner in corners if self.height(*corner) == self.deep[(i, j)]]
        high = [corner for corner in corners if self.height(*corner) == self.deep[(i, j)] + 1]
        assert len(low) + len(high) == 4 and len(high) in (1, 2, 3)
        return low[0] if len(high) == 3 else None

    def water_end(self, i, j, s):
        """(0, i, j, side) of an eave or (1, X, Y) of a corner."""
        passed = set()
        while True:
            assert (i, j, s) not in passed, "every triangle's water has one end"
            passed.add((i, j, s))
            foot = self.valley_foot(i, j)
            if foot is None:
                f = self.faces_to[(i, j, s)]
                beyond = (i + STEPS[f][0], j + STEPS[f][1])
                if beyond not in self.in_house:
                    return (0, i, j, f)
                i, j, s = *beyond, (f + 2) % 4
            else:
                if self.height(*foot) == 0:
                    return (1, *foot)
                x, y = foot
                (i, j), = [(a, b) for a in (x - 1, x) for b in (y - 1, y) if a != i and b != j]
                assert self.valley_foot(i, j) is not None, "that's a valley's, too"
                s = (s + 1) % 4

    def end_number(self, end):
        if end[0] == 1:
            found = [n for n, ((x, y), other) in enumerate(self.walls) if (2 * x, 2 * y) == end[1:]]
        else:
            found = [n for n, wall in enumerate(self.walls)
                     if all(lies_on(point, *wall) for point in self.ends(*end[1:]))]
        assert len(found) == 1, end
        return found[0]

    def drop_answer(self, triangle):
        end = self.water_end(*triangle)
        return [*end, self.end_number(end)]

    def walls_answer(self):
        ends = Counter(self.water_end(*triangle) for triangle in self.triangles)
        rows = [[0, 0, abs(u - x) + abs(v - y)] for (x, y), (u, v) in self.walls]
        for end, count in ends.items():
            rows[self.end_number(end)][end[0]] += count
        return [len(rows)] + [number for row in rows for number in row]

    # --- tiles

    def tile(self, triangle, wide, high):
        """Course and number of the tile over a triangle."""
        i, j, s = triangle
        q = self.deep[(i, j)] // high
        a = i if self.faces_to[triangle] in (0, 2) else j
        d = 0 if q % 2 == 0 else wide // 2
        return q, (a + d) // wide

    def tiles_on(self, k, wide, high):
        """How many triangles of the face lie under each tile."""
        return Counter(self.tile(triangle, wide, high) for triangle in self.faces[k])

    def tiles_answer(self, k, wide, high):
        counts = self.tiles_on(k, wide, high).values()
        return [sum(count == 4 * wide * high for count in counts), sum(count < 4 * wide * high for count in counts)]

    def courses_answer(self, k, wide, high):
        tiles = self.tiles_on(k, wide, high)
        count = max(course for course, number in tiles) + 1
        answer = [count]
        for q in range(count):
            under = [tiles[tile] for tile in tiles if tile[0] == q]
            whole = sum(triangles == 4 * wide * high for triangles in under)
            answer += [whole, len(under) - whole, sum(under)]
        return answer

    def roof_answer(self, wide, high):
        rows = [self.tiles_answer(k, wide, high) for k in range(len(self.faces))]
        counts = [self.courses_answer(k, wide, high)[0] for k in range(len(self.faces))]
        return [sum(whole for whole, cut in rows), sum(cut for whole, cut in rows), max(counts)]

    def size_answer(self, sizes):
        best = None
        for n, size in enumerate(sizes):
            whole, cut, courses = self.roof_answer(*size)
            if best is None or whole + cut < best[1] + best[2] or (whole + cut == best[1] + best[2] and cut < best[2]):
                best = [n, whole, cut]
        return best

    # --- built on

    def lot(self, triangle, after):
        """What becomes of a triangle of this roof or of the one after."""
        i, j, s = triangle
        if (i, j) in self.in_house and (i, j) in after.in_house:
            as_deep = self.deep[(i, j)] == after.deep[(i, j)]
            as_high = all(self.height(*end) == after.height(*end) for end in self.ends(i, j, s))
            return 0 if as_deep and as_high else 1
        return 2 if (i, j) in after.in_house else 3

    def change_answer(self, after):
        counts = Counter(self.lot(triangle, after) for triangle in {*self.triangles, *after.triangles})
        return [counts[n] for n in range(4)]

    def keeps_answer(self, after):
        stay = [all(self.lot(triangle, after) == 0 for triangle in face) for face in self.faces]
        return [len(stay)] + [int(stays) for stays in stay]

    def free_answers(self):
        """What free answers for each face."""
        free = [[] for face in self.faces]
        for x, y in sorted(cells_beside(self.cells), key=lambda cell: (cell[1], cell[0])):
            if is_house(self.cells | {(x, y)}):
                stay = self.keeps_answer(LiteralHeights(self.cells | {(x, y)}))[1:]
                for k, stays in enumerate(stay):
                    free[k] += [(x, y)] * stays
        return [[len(cells)] + [number for cell in cells for number in cell] for cells in free]


def lies_on(point, corner, other):
    """If a point, in halves, lies on the wall between two corners, in feet."""
    return all(2 * min(corner[n], other[n]) <= point[n] <= 2 * max(corner[n], other[n]) for n in (0, 1))


def slope(piece):
    (x, y), (u, v) = sorted(piece, key=lambda end: (end[1], end[0]))
    return (u > x) - (u < x), (v > y) - (v < y)


def rows_joined(pieces):
    """Pieces put together as long as two of one slope have an end in common; from and to of each row."""
    rows = set(pieces)
    joined = True
    while joined:
        joined = False
        for one in rows:
            fits = [other for other in rows if other != one and one & other and slope(one) == slope(other)]
            if fits:
                rows -= {one, fits[0]}
                rows.add(one ^ fits[0])
                joined = True
                break
    return [tuple(sorted(row, key=lambda end: (end[1], end[0]))) for row in rows]
