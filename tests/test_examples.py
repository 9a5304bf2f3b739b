"""The document's examples, number by number."""

import unittest

from rooftold import desk
from tests.houses import in_rows

O = list(b"0,0 1,0 1,1 0,1\n")
T = list(b"0,0 4,0 4,2 2,2 2,3 0,3\n")
P = list(b"0,0 2,0 2,1 0,1\n")
R = list(b"0,0 3,0 3,1 0,1\n")
BLOCK = list(b"0,0 4,0 4,2 0,2\n")


class Examples(unittest.TestCase):
    def test_faces_of_one_cell(self):
        told = [4, 0, 4, 2, 0, 0, 0, 3, 4, 2, 0, 0, 2, 1, 4, 2, 1, 0, 1, 2, 4, 2, 0, 1, 1]
        self.assertEqual(desk.faces(O), told)

    def test_lines_of_one_cell(self):
        told = [4, 1, 0, 1, 0, 0, 1, 1, 1, 0, 2, 2, 0, 1, 1, 1, 1, 3, 1, 1, 0, 2, 1, 2, 3, 1, 1, 2, 2]
        self.assertEqual(desk.lines(O), told)

    def test_face_refuses(self):
        self.assertEqual(desk.face(2, 0, 0, O), [-5])
        self.assertEqual(desk.face(0, 0, 4, O), [-3])

    def test_the_one_valley(self):
        valleys = [row for row in in_rows(desk.lines(T), 7) if row[0] == 2]
        self.assertEqual([row[3:] for row in valleys], [(2, 2, 4, 4)])

    def test_rain_on_one_cell(self):
        self.assertEqual(desk.drop(0, 0, 1, O), [0, 0, 0, 0, 0])
        self.assertEqual(desk.walls(O), [4, 4, 0, 1, 4, 0, 1, 4, 0, 1, 4, 0, 1])

    def test_rain_that_ends_at_a_corner(self):
        self.assertEqual(desk.drop(3, 3, 0, T), [1, 4, 4, 3])

    def test_tiles(self):
        self.assertEqual(desk.tiles(0, 2, 1, O), [0, 1])
        self.assertEqual(desk.tiles(0, 2, 1, BLOCK), [3, 4])
        self.assertEqual(desk.tiles(0, 2, 2, BLOCK), [2, 2])
        self.assertEqual(desk.tiles(0, 3, 1, BLOCK), [-3])
        self.assertEqual(desk.tiles(4, 2, 1, BLOCK), [-6])

    def test_courses_and_no_size(self):
        self.assertEqual(desk.courses(0, 2, 1, BLOCK), [2, 2, 2, 28, 1, 2, 20])
        self.assertEqual(desk.size(BLOCK, []), [-7])

    def test_built_on(self):
        self.assertEqual(desk.change(O, O), [16, 0, 0, 0])
        self.assertEqual(desk.change(P, R), [28, 4, 16, 0])
        self.assertEqual(desk.change(R, P), [28, 4, 0, 16])
        self.assertEqual(desk.keeps(P, R), [4, 1, 1, 0, 1])
        self.assertEqual(desk.lot(3, 0, 1, P, R), [1])
        self.assertEqual(desk.lot(4, 0, 0, P, R), [2])
        self.assertEqual(desk.lot(0, 0, 0, P, R), [0])
        self.assertEqual(desk.lot(6, 0, 0, P, R), [-5])

    def test_free_cells(self):
        self.assertEqual(desk.free(1, P), [3, 2, 0, 0, 1, 1, 1])

    def test_face_of_each_triangle_of_one_cell(self):
        # By hand: the south face has (0, 0, 0), (0, 0, 1), (1, 0, 0) and (1, 0, 3), and so on round.
        told = {0: [(0, 0, 0), (0, 0, 1), (1, 0, 0), (1, 0, 3)],
                1: [(0, 0, 2), (0, 0, 3), (0, 1, 0), (0, 1, 3)],
                2: [(1, 0, 1), (1, 0, 2), (1, 1, 0), (1, 1, 1)],
                3: [(0, 1, 1), (0, 1, 2), (1, 1, 2), (1, 1, 3)]}
        for number, triangles in told.items():
            for triangle in triangles:
                self.assertEqual(desk.face(*triangle, O), [number], triangle)

    def test_arguments_by_name(self):
        self.assertEqual(desk.face(i=1, j=1, s=3, t=O), [3])
        self.assertEqual(desk.faces(t=O)[0], 4)
        self.assertEqual(desk.lines(t=O)[0], 4)
        self.assertEqual(desk.drop(i=3, j=3, s=0, t=T), [1, 4, 4, 3])
        self.assertEqual(desk.walls(t=O)[0], 4)
        self.assertEqual(desk.tiles(k=0, W=2, H=1, t=BLOCK), [3, 4])
        self.assertEqual(desk.courses(k=0, W=2, H=1, t=BLOCK)[0], 2)
        self.assertEqual(desk.roof(W=2, H=2, t=BLOCK), [4, 8, 1])
        self.assertEqual(desk.size(t=BLOCK, sizes=[2, 1, 2, 2]), [1, 4, 8])
        self.assertEqual(desk.change(t=P, u=R), [28, 4, 16, 0])
        self.assertEqual(desk.lot(i=4, j=0, s=0, t=P, u=R), [2])
        self.assertEqual(desk.keeps(t=P, u=R), [4, 1, 1, 0, 1])
        self.assertEqual(desk.free(k=1, t=P)[0], 3)


if __name__ == "__main__":
    unittest.main()
