"""Promise 5: tiles whole and cut, on faces of every kind and of every size."""

import unittest

from rooftold import desk
from tests.houses import HOUSES, LiteralRoof, block, built_house, cells_of, house_bytes, in_rows, text_of

WIDTHS = range(2, 65, 2)
HEIGHTS = range(1, 65)
SIZES = ((2, 1), (2, 2), (2, 3), (4, 1), (4, 2), (6, 1), (8, 3), (32, 5), (64, 64))


class TilesOfFaces(unittest.TestCase):
    @classmethod
    def setUpClass(cls):
        cls.roofs = {name: LiteralRoof(cells_of(name)) for name in HOUSES}
        cls.roofs.update({f"built {seed}": LiteralRoof(built_house(seed)) for seed in range(3)})

    def check(self, roof, k, wide, high):
        told = desk.tiles(k, wide, high, text_of(roof.cells))
        self.assertEqual(told, roof.tiles_answer(k, wide, high), (k, wide, high))

    def test_every_face_of_every_house(self):
        for name, roof in self.roofs.items():
            with self.subTest(name):
                for k in range(len(roof.faces)):
                    for n in (0, 1, 2):
                        self.check(roof, k, *SIZES[(k + 3 * n) % len(SIZES)])

    def test_every_width(self):
        for wide in WIDTHS:
            for name, high in (("block", 1), ("wide court", 2), ("bar", 1)):
                for k in range(4):
                    self.check(self.roofs[name], k, wide, high)

    def test_every_height(self):
        for high in HEIGHTS:
            for name, wide in (("cross", 2), ("wide court", 4)):
                for k in range(4):
                    self.check(self.roofs[name], k, wide, high)
            self.check(self.roofs["256 cells"], high % 4, 2, high)

    def test_widths_and_heights_together_on_the_greatest_face(self):
        for wide in (2, 4, 6, 8, 10, 12, 14, 16, 30, 32, 34, 62, 64):
            for high in (1, 2, 3, 4, 5, 7, 8, 15, 16, 17, 63, 64):
                self.check(self.roofs["256 cells"], (wide // 2 + high) % 4, wide, high)


class Promise5(unittest.TestCase):
    @classmethod
    def setUpClass(cls):
        cls.texts = {name: house_bytes(name) for name in HOUSES}
        cls.texts.update({f"built {seed}": text_of(built_house(seed)) for seed in range(3)})

    def of_each_face(self):
        """Each face of each house, and its courses for several sizes."""
        for name, text in self.texts.items():
            for k, face in enumerate(in_rows(desk.faces(text), 6)):
                for n in (0, 1, 2):
                    wide, high = SIZES[(k + 3 * n) % len(SIZES)]
                    courses = in_rows(desk.courses(k, wide, high, text), 3)
                    yield (name, k, wide, high), face, courses

    def test_a_faces_courses_have_all_its_triangles(self):
        for told, face, courses in self.of_each_face():
            self.assertEqual(sum(course[2] for course in courses), face[1], told)

    def test_whole_tiles_are_full_and_cut_ones_are_not(self):
        for told, face, courses in self.of_each_face():
            full = 4 * told[2] * told[3]
            for whole, cut, triangles in courses:
                self.assertGreaterEqual(triangles, whole * full + cut, told)
                self.assertLessEqual(triangles, whole * full + cut * (full - 1), told)

    def test_each_course_from_0_on_has_some(self):
        for told, face, courses in self.of_each_face():
            self.assertGreater(len(courses), 0)
            for whole, cut, triangles in courses:
                self.assertGreater(whole + cut, 0, told)
                self.assertGreater(triangles, 0, told)

    def test_courses_and_tiles_agree(self):
        for told, face, courses in self.of_each_face():
            name, k, wide, high = told
            together = [sum(course[0] for course in courses), sum(course[1] for course in courses)]
            self.assertEqual(desk.tiles(k, wide, high, self.texts[name]), together, told)

    def test_roof_is_the_sum_over_all_faces(self):
        for n, (name, text) in enumerate(self.texts.items()):
            count = desk.faces(text)[0]
            for wide, high in (SIZES[n % len(SIZES)], SIZES[(n + 3) % len(SIZES)], SIZES[(n + 5) % len(SIZES)]):
                tiles = [desk.tiles(k, wide, high, text) for k in range(count)]
                most = max(desk.courses(k, wide, high, text)[0] for k in range(count))
                told = [sum(whole for whole, cut in tiles), sum(cut for whole, cut in tiles), most]
                self.assertEqual(desk.roof(wide, high, text), told, (name, wide, high))


class ByHand(unittest.TestCase):
    def test_courses_of_short_faces(self):
        # 2 4 4 2 in course 0; 2 2 in course 1, shifted so that one tile lies over them.
        self.assertEqual(desk.courses(1, 2, 1, house_bytes("block")), [2, 0, 2, 12, 0, 1, 4])
        self.assertEqual(desk.courses(2, 2, 2, house_bytes("block")), [1, 0, 2, 16])

    def test_roof_of_a_block(self):
        # Two long faces, two short ones.
        self.assertEqual(desk.roof(2, 1, house_bytes("block")), [3 + 3 + 0 + 0, 4 + 4 + 3 + 3, 2])
        self.assertEqual(desk.roof(2, 2, house_bytes("block")), [2 + 2 + 0 + 0, 2 + 2 + 2 + 2, 1])

    def test_the_most_courses(self):
        # The highest half-cells of sixteen feet square lie fifteen deep.
        for high, courses in ((1, 16), (2, 8), (3, 6), (5, 4), (15, 2), (16, 1), (64, 1)):
            self.assertEqual(desk.roof(2, high, house_bytes("256 cells"))[2], courses)
            self.assertEqual(desk.courses(3, 2, high, house_bytes("256 cells"))[0], courses)

    def test_the_most_courses_are_not_the_first_faces(self):
        # A low porch comes first, a high house behind it.
        text = text_of(block(4, 0, 1, 1) | block(2, 1, 6, 6))
        self.assertEqual(desk.courses(0, 2, 1, text)[0], 1)
        self.assertEqual(desk.roof(2, 1, text)[2], 6)

    def test_tiles_are_counted_from_the_plans_edge_not_from_the_faces(self):
        # Of a tile four wide and two high a block from 0 on has two cut ones; from 1 on a whole one between two cut.
        for x in (0, 2, 60):
            self.assertEqual(desk.tiles(0, 4, 2, text_of(block(x, 3, 4, 2))), [0, 2])
        for x in (1, 3, 59):
            self.assertEqual(desk.tiles(0, 4, 2, text_of(block(x, 3, 4, 2))), [1, 2])

    def test_odd_courses_are_shifted(self):
        # The block's long face has 2 4 4 4 4 4 4 2 triangles of half-cells 0 to 7 in course 0, and of 1 to 6
        # 2 4 4 4 4 2 in course 1. Two wide: cut, whole, whole, cut; then, shifted by one: cut, whole, cut.
        self.assertEqual(desk.tiles(0, 2, 1, house_bytes("block")), [3, 4])
        # Four wide: two cut ones; then, shifted by two: cut, whole, cut.
        self.assertEqual(desk.tiles(0, 4, 1, house_bytes("block")), [1, 4])
        # Eight wide: one, cut at both ends; then, shifted by four: two cut ones.
        self.assertEqual(desk.tiles(0, 8, 1, house_bytes("block")), [0, 3])

    def test_all_four_directions(self):
        # A block and the same turned: its long faces look south and north, the turned one's east and west.
        # A short face has 2 4 4 2 in course 0 and, in the middle, 2 2 in course 1.
        for cells, long_ways in ((block(0, 0, 4, 2), (0, 2)), (block(0, 0, 2, 4), (1, 3))):
            text = text_of(cells)
            for k, row in enumerate(in_rows(desk.faces(text), 6)):
                if row[0] in long_ways:
                    self.assertEqual(desk.tiles(k, 2, 1, text), [3, 4], row)
                else:
                    self.assertEqual(desk.tiles(k, 2, 1, text), [0, 3], row)

    def test_one_tile_over_each_face(self):
        for name in ("one cell", "block", "256 cells"):
            for k in range(4):
                self.assertEqual(desk.tiles(k, 64, 64, house_bytes(name)), [0, 1])

    def test_the_widest_face(self):
        # 128 halves wide, four courses deep: 64 wide, two cut ones, then one whole between two cut, and so on again.
        text = text_of(block(0, 30, 64, 4))
        self.assertEqual(desk.tiles(0, 64, 1, text), [0 + 1 + 0 + 1, 2 + 2 + 2 + 2])
        self.assertEqual(desk.tiles(0, 32, 1, text), [2 + 3 + 2 + 3, 2 + 2 + 2 + 2])


if __name__ == "__main__":
    unittest.main()
