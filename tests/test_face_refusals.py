"""What face refuses, and in which order it looks."""

import unittest

from rooftold import desk
from tests.houses import house_bytes

GREAT = (128, 129, 255, 256, 65536, 4294967294, 4294967295)
SIDES = (4, 5, 7, 8, 127, 4294967295)
WRONG = (list(b""), list(b"0,0 1,0 1,1 0,1"), list(b"0,0 2,0 2,2 1,1\n"), [0] * 4096)


class FaceRefusals(unittest.TestCase):
    def test_out_of_bounds(self):
        for text in (house_bytes("last cell"), house_bytes("256 cells")):
            for great in GREAT:
                self.assertEqual(desk.face(great, 0, 0, text), [-3])
                self.assertEqual(desk.face(0, great, 0, text), [-3])
                self.assertEqual(desk.face(great, great, great, text), [-3])
            for side in SIDES:
                self.assertEqual(desk.face(0, 0, side, text), [-3])
                self.assertEqual(desk.face(127, 127, side, text), [-3])

    def test_the_last_numbers_within_bounds(self):
        text = house_bytes("last cell")
        self.assertEqual(desk.face(127, 127, 3, text), [3])
        self.assertEqual(desk.face(126, 126, 0, text), [0])
        self.assertEqual(desk.face(127, 126, 1, text), [2])
        self.assertEqual(desk.face(127, 125, 1, text), [-5])
        self.assertEqual(desk.face(125, 127, 1, text), [-5])
        self.assertEqual(desk.face(0, 0, 3, text), [-5])

    def test_outside(self):
        text = house_bytes("court")
        for i in range(8):
            for j in range(8):
                is_in = i < 6 and j < 6 and not (2 <= i <= 3 and 2 <= j <= 3)
                for s in range(4):
                    answer = desk.face(i, j, s, text)
                    self.assertEqual(answer == [-5], not is_in, (i, j, s))
        self.assertEqual(desk.face(127, 127, 0, text), [-5])

    def test_bounds_come_ahead_of_the_text(self):
        for text in WRONG:
            self.assertEqual(desk.face(128, 0, 0, text), [-3])
            self.assertEqual(desk.face(0, 128, 0, text), [-3])
            self.assertEqual(desk.face(0, 0, 4, text), [-3])
            self.assertEqual(desk.face(4294967295, 4294967295, 4294967295, text), [-3])

    def test_the_text_comes_ahead_of_outside(self):
        for text in WRONG:
            self.assertEqual(desk.face(0, 0, 0, text), [-1])
            self.assertEqual(desk.face(127, 127, 3, text), [-1])
            self.assertEqual(desk.face(2, 0, 0, text), [-1])

    def test_bounds_come_ahead_of_outside(self):
        self.assertEqual(desk.face(2, 0, 4, house_bytes("one cell")), [-3])


if __name__ == "__main__":
    unittest.main()
