"""Promise 7: a cell told free may be built without a touch to the face, and no other beside the house."""

import unittest

from rooftold import desk
from tests.houses import (HOUSES, LiteralRoof, block, built_house, cells_beside, cells_in_drawing, cells_of,
                          grown_house, house_bytes, in_rows, is_house, text_of)

HOOK = cells_in_drawing(["##.",
                         "#..",
                         "###"])


def free_of_each_face(cells):
    text = text_of(cells)
    return [in_rows(desk.free(k, text), 2) for k in range(desk.faces(text)[0])]


def moved(cells, x, y):
    return {(x + a, y + b) for a, b in cells}


class Promise7(unittest.TestCase):
    def check(self, cells):
        """What free tells of each face, against what keeps tells of each cell beside the house."""
        text = text_of(cells)
        told = free_of_each_face(cells)
        stay = [[] for face in told]
        for x, y in sorted(cells_beside(cells), key=lambda cell: (cell[1], cell[0])):
            if is_house(cells | {(x, y)}):
                keeps = desk.keeps(text, text_of(cells | {(x, y)}))
                self.assertEqual(keeps[0], len(told))
                for k in range(len(told)):
                    stay[k] += [(x, y)] * keeps[1 + k]
        self.assertEqual(told, stay, bytes(text))

    def test_houses_written_by_hand(self):
        for name in HOUSES:
            with self.subTest(name):
                self.check(cells_of(name))

    def test_grown_and_built_houses(self):
        for seed in range(12):
            self.check(grown_house(seed, 8 + 4 * seed, 4 + seed, 9, west=seed, south=50))
            self.check(built_house(seed))

    def test_with_the_new_cell_it_is_a_house(self):
        for name in HOUSES:
            cells = cells_of(name)
            for cell in {cell for free in free_of_each_face(cells) for cell in free}:
                self.assertNotIn(cell, cells)
                self.assertNotEqual(desk.faces(text_of(cells | {cell})), [-1], (name, cell))

    def test_cells_are_in_order_and_each_is_told_once(self):
        for name in HOUSES:
            for free in free_of_each_face(cells_of(name)):
                order = [(y, x) for x, y in free]
                self.assertEqual(order, sorted(set(order)))


class AsTheWordsTell(unittest.TestCase):
    def check(self, cells):
        text = text_of(cells)
        told = LiteralRoof(cells).free_answers()
        self.assertEqual([desk.free(k, text) for k in range(len(told))], told, bytes(text))

    def test_drawings(self):
        drawings = (["###", "###", "###"], ["##.", "##.", "###"], ["###", "#.#", "###"], ["#.#", "###", "#.#"],
                    ["####", "#..#", "####"], ["#####", "#...#", "#.###", "#...."], ["######", "######", "##..##"],
                    ["#####", "#####", "##.##", "#####", "#####"])
        for drawing in drawings:
            cells = cells_in_drawing(drawing)
            for x, y in ((0, 0), (7, 3), (64 - len(drawing[0]), 64 - len(drawing)), (0, 64 - len(drawing))):
                self.check(moved(cells, x, y))

    def test_built_houses(self):
        for seed in range(20, 32):
            self.check(built_house(seed))

    def test_wide_houses(self):
        # High roofs: a cell far off lets a ridge go on, one near a corner doesn't touch what lies below.
        for cells in (block(2, 2, 9, 4), block(2, 2, 8, 8), block(0, 0, 10, 4) | block(0, 4, 4, 5),
                      block(10, 10, 9, 9) - block(13, 13, 3, 3)):
            self.check(cells)


class ByHand(unittest.TestCase):
    def test_one_cell(self):
        # What's built on the face's own side touches it; on the others it doesn't.
        for x, y in ((9, 9), (30, 1)):
            south, west, east, north = (x, y - 1), (x - 1, y), (x + 1, y), (x, y + 1)
            told = free_of_each_face({(x, y)})
            self.assertEqual(told, [[west, east, north], [south, east, north], [south, west, north],
                                    [south, west, east]])

    def test_no_cell_beyond_the_edge(self):
        self.assertEqual(free_of_each_face({(0, 0)}), [[(1, 0), (0, 1)], [(1, 0), (0, 1)], [(0, 1)], [(1, 0)]])
        self.assertEqual(free_of_each_face({(63, 63)}), [[(62, 63)], [(63, 62)], [(63, 62), (62, 63)],
                                                         [(63, 62), (62, 63)]])
        self.assertEqual(free_of_each_face({(0, 63)}), [[(1, 63)], [(0, 62), (1, 63)], [(0, 62)],
                                                        [(0, 62), (1, 63)]])
        self.assertEqual(free_of_each_face({(63, 0)}), [[(62, 0), (63, 1)], [(63, 1)], [(62, 0), (63, 1)],
                                                        [(62, 0)]])

    def test_all_along_the_edges(self):
        for name in ("south and east edge", "north-west corner", "last cell"):
            for free in free_of_each_face(cells_of(name)):
                self.assertTrue(all(0 <= x <= 63 and 0 <= y <= 63 for x, y in free))
                self.assertTrue(free)

    def test_255_cells_and_256(self):
        for cells, last in ((block(20, 20, 16, 16), (35, 35)), (block(0, 30, 64, 4), (63, 33))):
            self.assertEqual(len(cells), 256)
            self.assertEqual(free_of_each_face(cells), [[]] * 4)
            told = free_of_each_face(cells - {last})
            self.assertTrue(all(told))
            self.assertTrue(any(last in free for free in told))
        self.assertEqual(desk.free(0, text_of(block(0, 0, 16, 16))), [0])

    def test_a_cell_that_would_meet_another_in_a_point_alone(self):
        # (2, 1) is beside (2, 0) and would meet (1, 2) in a point alone; with (2, 2) in the house it wouldn't.
        for x, y in ((0, 0), (20, 30), (61, 61)):
            for free in free_of_each_face(moved(HOOK, x, y)):
                self.assertNotIn((x + 2, y + 1), free)
            self.assertTrue(any((x + 2, y + 2) in free for free in free_of_each_face(moved(HOOK, x, y))))
            closed = free_of_each_face(moved(HOOK | {(2, 2)}, x, y))
            self.assertTrue(any((x + 2, y + 1) in free for free in closed))

    def test_a_court_of_one_cell(self):
        # Filled, it lets the outer faces stay, and none of its own.
        text = house_bytes("court")
        for free, face in zip(free_of_each_face(cells_of("court")), in_rows(desk.faces(text), 6)):
            is_outer = face[1] == 20
            self.assertEqual((1, 1) in free, is_outer)

    def test_cells_within_a_court(self):
        # Of a court three wide and three high its middle isn't beside the house; a corner's cell doesn't touch the
        # walls on the other sides.
        cells = block(10, 10, 5, 5) - block(11, 11, 3, 3)
        rows = in_rows(desk.faces(text_of(cells)), 6)
        told = free_of_each_face(cells)
        for free in told:
            self.assertNotIn((12, 12), free)
        # The court's walls: its south one is faced by what looks north from below it, and so on.
        inner = [k for k, row in enumerate(rows) if row[2] == 6]
        self.assertEqual(len(inner), 4)
        for k in inner:
            within = [cell for cell in told[k] if 11 <= cell[0] <= 13 and 11 <= cell[1] <= 13]
            beside = {0: [(11, 13), (12, 13), (13, 13)], 1: [(11, 11), (11, 12), (11, 13)],
                      2: [(11, 11), (12, 11), (13, 11)], 3: [(13, 11), (13, 12), (13, 13)]}[rows[k][0]]
            self.assertFalse(set(within) & set(beside))
            self.assertEqual(len(within), 5)

    def test_a_cell_beside_two_of_the_house(self):
        # The cell in the corner of an L is beside two cells and told once.
        free = [cells for cells in free_of_each_face(cells_of("L")) if (2, 2) in cells]
        self.assertTrue(free)
        for cells in free:
            self.assertEqual(cells.count((2, 2)), 1)


if __name__ == "__main__":
    unittest.main()
