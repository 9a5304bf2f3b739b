"""What the calls answer, held against the document's words, told over literally, on many houses."""

import unittest

from rooftold import desk
from tests.houses import (LiteralRoof, block, built_house, cells_in_drawing, grown_house, in_rows, small_houses, stairs,
                          text_of)

SIZES = [(2, 1), (2, 2), (4, 1), (4, 3), (6, 2), (8, 1), (10, 5), (64, 64)]


class Words(unittest.TestCase):
    def check(self, cells):
        roof = LiteralRoof(cells)
        text = text_of(cells)
        self.assertEqual(desk.faces(text), roof.faces_answer(), bytes(text))
        self.assertEqual(desk.lines(text), roof.lines_answer(), bytes(text))
        self.assertEqual(desk.walls(text), roof.walls_answer(), bytes(text))
        for n, triangle in enumerate(roof.triangles[::len(roof.triangles) // 9]):
            self.assertEqual(desk.face(*triangle, text), [roof.number[triangle]], (bytes(text), triangle))
            self.assertEqual(desk.drop(*triangle, text), roof.drop_answer(triangle), (bytes(text), triangle))
            k, size = n * 5 % len(roof.faces), SIZES[(n + len(cells)) % len(SIZES)]
            self.assertEqual(desk.tiles(k, *size, text), roof.tiles_answer(k, *size), (bytes(text), k, size))
            self.assertEqual(desk.courses(k, *size, text), roof.courses_answer(k, *size), (bytes(text), k, size))
        self.assertEqual(desk.roof(*size, text), roof.roof_answer(*size), (bytes(text), size))
        sizes = [SIZES[(len(cells) + n) % len(SIZES)] for n in (0, 3, 5)]
        self.assertEqual(desk.size(text, sum(map(list, sizes), [])), roof.size_answer(sizes), (bytes(text), sizes))

    def test_every_house_in_four_by_three_cells(self):
        houses = small_houses(4, 3)
        self.assertGreater(len(houses), 500)
        for cells in houses:
            self.check(cells)

    def test_grown_houses(self):
        for seed in range(60):
            self.check(grown_house(seed, 4 + seed, 4 + seed % 9, 4 + seed % 7, west=seed % 50, south=seed * 7 % 50))

    def test_built_houses(self):
        for seed in range(60):
            self.check(built_house(seed))

    def test_at_the_far_edges(self):
        for seed in range(8):
            self.check(grown_house(seed, 60, 9, 9, west=55, south=55))

    def test_stairs(self):
        self.check(stairs())

    def test_as_many_cells_as_there_may_be(self):
        self.check(block(0, 30, 64, 4))
        self.check(block(48, 48, 16, 16))

    def test_round_all_edges(self):
        self.check(block(0, 0, 64, 64) - block(1, 1, 62, 62))

    def test_lines_of_a_block(self):
        # By hand: a hip from each corner, the ridge between the two long faces.
        rows = in_rows(desk.lines(list(b"0,0 4,0 4,2 0,2\n")), 7)
        self.assertEqual(rows, [(1, 0, 1, 0, 0, 2, 2), (1, 0, 2, 8, 0, 6, 2), (0, 0, 3, 2, 2, 6, 2),
                                (1, 1, 3, 2, 2, 0, 4), (1, 2, 3, 6, 2, 8, 4)])

    def test_one_pair_of_faces_with_two_ridges(self):
        # A small court breaks the ridge of a long house, and the long faces go on beside it.
        for cells, ridges in ((block(9, 1, 14, 3) - {(16, 2)}, [(21, 5, 29, 5), (37, 5, 43, 5)]),
                              (block(1, 9, 3, 14) - {(2, 16)}, [(5, 21, 5, 29), (5, 37, 5, 43)])):
            self.check(cells)
            rows = in_rows(desk.lines(text_of(cells)), 7)
            self.assertEqual([row[3:] for row in rows if row[0] == 0 and row[3:] in ridges], ridges)
            self.assertEqual(len({row[1:3] for row in rows if row[3:] in ridges}), 1)

    def test_faces_of_a_block(self):
        rows = in_rows(desk.faces(list(b"0,0 4,0 4,2 0,2\n")), 6)
        self.assertEqual(rows, [(0, 48, 8, 0, 0, 0), (3, 16, 4, 0, 0, 2), (1, 16, 4, 7, 0, 1), (2, 48, 8, 1, 2, 1)])

    def test_two_wings_of_one_facing_are_two_faces(self):
        cells = cells_in_drawing(["#...#", "#...#", "#####"])
        rows = in_rows(desk.faces(text_of(cells)), 6)
        self.assertEqual(sorted(row[0] for row in rows), [0, 1, 1, 2, 2, 2, 3, 3])


if __name__ == "__main__":
    unittest.main()
