"""Promise 5: tiles whole and cut, on faces of every kind and of every size."""

import unittest

from rooftold import desk
from tests.houses import HOUSES, LiteralRoof, block, built_house, cells_of, house_bytes, in_rows, text_of

WIDTHS = range(2, 65, 2)
HEIGHTS = range(1, 65)
SIZES = ((2, 1), (2, 2), (2, 3), (4, 1), (4, 2), (6, 1), (8, 3), (32, 5), (64, 64))


class TilesOfFaces(unittest.TestCase):
    @classmethod
    def setUpClass(cls):
        cls.roofs = {name: LiteralRoof(cells_of(name)) for name in HOUSES}
        cls.roofs.update({f"built {seed}": LiteralRoof(built_house(seed)) for seed in range(3)})

    def check(self, roof, k, wide, high):
        told = desk.tiles(k, wide, high, text_of(roof.cells))
        self.assertEqual(told, roof.tiles_answer(k, wide, high), (k, wide, high))

    def test_every_face_of_every_house(self):
        for name, roof in self.roofs.items():
            with self.subTest(name):
                for k in range(len(roof.faces)):
                    for n in (0, 1, 2):
                        self.check(roof, k, *SIZES[(k + 3 * n) % len(SIZES)])

    def test_every_width(self):
        for wide in WIDTHS:
            for name, high in (("block", 1), ("wide court", 2), ("bar", 1)):
                for k in range(4):
                    self.check(self.roofs[name], k, wide, high)

    def test_every_height(self):
        for high in HEIGHTS:
            for name, wide in (("cross", 2), ("wide court", 4)):
                for k in range(4):
                    self.check(self.roofs[name], k, wide, high)
            self.check(self.roofs["256 cells"], high % 4, 2, high)

    def test_widths_and_heights_together_on_the_greatest_face(self):
        for wide in (2, 4, 6, 8, 10, 12, 14, 16, 30, 32, 34, 62, 64):
            for high in (1, 2, 3, 4, 5, 7, 8, 15, 16, 17, 63, 64):
                self.check(self.roofs["256 cells"], (wide // 2 + high) % 4, wide, high)


class ByHand(unittest.TestCase):
    def test_tiles_are_counted_from_the_plans_edge_not_from_the_faces(self):
        # Of a tile four wide and two high a block from 0 on has two cut ones; from 1 on a whole one between two cut.
        for x in (0, 2, 60):
            self.assertEqual(desk.tiles(0, 4, 2, text_of(block(x, 3, 4, 2))), [0, 2])
        for x in (1, 3, 59):
            self.assertEqual(desk.tiles(0, 4, 2, text_of(block(x, 3, 4, 2))), [1, 2])

    def test_odd_courses_are_shifted(self):
        # The block's long face has 2 4 4 4 4 4 4 2 triangles of half-cells 0 to 7 in course 0, and of 1 to 6
        # 2 4 4 4 4 2 in course 1. Two wide: cut, whole, whole, cut; then, shifted by one: cut, whole, cut.
        self.assertEqual(desk.tiles(0, 2, 1, house_bytes("block")), [3, 4])
        # Four wide: two cut ones; then, shifted by two: cut, whole, cut.
        self.assertEqual(desk.tiles(0, 4, 1, house_bytes("block")), [1, 4])
        # Eight wide: one, cut at both ends; then, shifted by four: two cut ones.
        self.assertEqual(desk.tiles(0, 8, 1, house_bytes("block")), [0, 3])

    def test_all_four_directions(self):
        # A block and the same turned: its long faces look south and north, the turned one's east and west.
        # A short face has 2 4 4 2 in course 0 and, in the middle, 2 2 in course 1.
        for cells, long_ways in ((block(0, 0, 4, 2), (0, 2)), (block(0, 0, 2, 4), (1, 3))):
            text = text_of(cells)
            for k, row in enumerate(in_rows(desk.faces(text), 6)):
                if row[0] in long_ways:
                    self.assertEqual(desk.tiles(k, 2, 1, text), [3, 4], row)
                else:
                    self.assertEqual(desk.tiles(k, 2, 1, text), [0, 3], row)

    def test_one_tile_over_each_face(self):
        for name in ("one cell", "block", "256 cells"):
            for k in range(4):
                self.assertEqual(desk.tiles(k, 64, 64, house_bytes(name)), [0, 1])

    def test_the_widest_face(self):
        # 128 halves wide, four courses deep: 64 wide, two cut ones, then one whole between two cut, and so on again.
        text = text_of(block(0, 30, 64, 4))
        self.assertEqual(desk.tiles(0, 64, 1, text), [0 + 1 + 0 + 1, 2 + 2 + 2 + 2])
        self.assertEqual(desk.tiles(0, 32, 1, text), [2 + 3 + 2 + 3, 2 + 2 + 2 + 2])


if __name__ == "__main__":
    unittest.main()
