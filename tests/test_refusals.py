"""What the calls refuse, and in which order they look."""

import unittest

from rooftold import desk
from tests.houses import SHED, house_bytes

GREAT = (128, 129, 255, 256, 65536, 4294967294, 4294967295)
SIDES = (4, 5, 7, 8, 127, 4294967295)
WRONG = (list(b""), list(b"0,0 1,0 1,1 0,1"), list(b"0,0 2,0 2,2 1,1\n"), [0] * 4096)
NO_WIDTHS = (0, 1, 3, 5, 31, 33, 63, 65, 66, 67, 68, 128, 4294967294, 4294967295)
NO_HEIGHTS = (0, 65, 66, 128, 4294967294, 4294967295)
NO_SIZES = ([(wide, 1) for wide in NO_WIDTHS] + [(2, high) for high in NO_HEIGHTS] +
            [(wide, high) for wide in NO_WIDTHS for high in NO_HEIGHTS])
SIZES = ((2, 1), (2, 64), (64, 1), (64, 64), (4, 3), (62, 63))

# The calls that take a triangle, a size, a face's number.
OF_A_TRIANGLE = (desk.face, desk.drop, lambda i, j, s, text: desk.lot(i, j, s, text, text))
OF_A_SIZE = (lambda wide, high, text: desk.tiles(0, wide, high, text),
             lambda wide, high, text: desk.courses(0, wide, high, text),
             desk.roof,
             lambda wide, high, text: desk.size(text, [wide, high]))
OF_A_FACE = (lambda k, text: desk.tiles(k, 2, 1, text), lambda k, text: desk.courses(k, 2, 1, text), desk.free)


class TriangleRefusals(unittest.TestCase):
    def test_out_of_bounds(self):
        for call in OF_A_TRIANGLE:
            for text in (house_bytes("last cell"), house_bytes("256 cells")):
                for great in GREAT:
                    self.assertEqual(call(great, 0, 0, text), [-3])
                    self.assertEqual(call(0, great, 0, text), [-3])
                    self.assertEqual(call(great, great, great, text), [-3])
                for side in SIDES:
                    self.assertEqual(call(0, 0, side, text), [-3])
                    self.assertEqual(call(127, 127, side, text), [-3])

    def test_the_last_numbers_within_bounds(self):
        text = house_bytes("last cell")
        for triangle, number in (((127, 127, 3), 3), ((126, 126, 0), 0), ((127, 126, 1), 2)):
            self.assertEqual(desk.face(*triangle, text), [number])
        self.assertEqual(desk.drop(127, 127, 3, text), [0, 127, 127, 2, 2])
        self.assertEqual(desk.drop(126, 126, 0, text), [0, 126, 126, 0, 0])
        self.assertEqual(desk.drop(127, 126, 1, text), [0, 127, 126, 1, 1])
        for call in OF_A_TRIANGLE:
            for triangle in ((127, 125, 1), (125, 127, 1), (0, 0, 3)):
                self.assertEqual(call(*triangle, text), [-5])

    def test_outside(self):
        text = house_bytes("court")
        for call in OF_A_TRIANGLE:
            for i in range(8):
                for j in range(8):
                    is_in = i < 6 and j < 6 and not (2 <= i <= 3 and 2 <= j <= 3)
                    for s in range(4):
                        self.assertEqual(call(i, j, s, text) == [-5], not is_in, (i, j, s))
            self.assertEqual(call(127, 127, 0, text), [-5])

    def test_bounds_come_ahead_of_the_text(self):
        for call in OF_A_TRIANGLE:
            for text in WRONG:
                for triangle in ((128, 0, 0), (0, 128, 0), (0, 0, 4), (4294967295, 4294967295, 4294967295)):
                    self.assertEqual(call(*triangle, text), [-3])

    def test_the_text_comes_ahead_of_outside(self):
        for call in OF_A_TRIANGLE:
            for text in WRONG:
                for triangle in ((0, 0, 0), (127, 127, 3), (2, 0, 0)):
                    self.assertEqual(call(*triangle, text), [-1])

    def test_bounds_come_ahead_of_outside(self):
        for call in OF_A_TRIANGLE:
            self.assertEqual(call(2, 0, 4, house_bytes("one cell")), [-3])


class PairRefusals(unittest.TestCase):
    def test_either_text_or_both_wrong(self):
        for wrong in WRONG:
            for t, u in ((wrong, SHED), (SHED, wrong), (wrong, wrong)):
                self.assertEqual(desk.change(t, u), [-1])
                self.assertEqual(desk.keeps(t, u), [-1])
                for triangle in ((0, 0, 0), (3, 1, 3), (4, 0, 0), (127, 127, 3)):
                    self.assertEqual(desk.lot(*triangle, t, u), [-1])

    def test_bounds_come_ahead_of_either_text(self):
        for wrong in WRONG:
            for t, u in ((wrong, SHED), (SHED, wrong), (wrong, wrong), (SHED, SHED)):
                for great in GREAT:
                    self.assertEqual(desk.lot(great, 0, 0, t, u), [-3])
                    self.assertEqual(desk.lot(0, great, 0, t, u), [-3])
                for side in SIDES:
                    self.assertEqual(desk.lot(0, 0, side, t, u), [-3])
                    self.assertEqual(desk.lot(127, 127, side, t, u), [-3])

    def test_outside_is_what_is_in_neither(self):
        last = house_bytes("last cell")
        for t, u, there, other in ((SHED, last, 3, 2), (last, SHED, 2, 3)):
            self.assertEqual(desk.lot(3, 1, 3, t, u), [there])
            self.assertEqual(desk.lot(127, 127, 3, t, u), [other])
            for triangle in ((4, 0, 0), (0, 2, 0), (125, 127, 3), (127, 125, 3), (127, 0, 0), (0, 127, 0)):
                self.assertEqual(desk.lot(*triangle, t, u), [-5])


class SizeRefusals(unittest.TestCase):
    def test_no_size(self):
        for call in OF_A_SIZE:
            for size in NO_SIZES:
                self.assertEqual(call(*size, house_bytes("block")), [-3], size)

    def test_sizes_at_the_bounds(self):
        for call in OF_A_SIZE:
            for size in SIZES:
                self.assertGreaterEqual(call(*size, house_bytes("block"))[0], 0, size)

    def test_sizes_come_ahead_of_the_text(self):
        for call in OF_A_SIZE:
            for text in WRONG:
                for size in NO_SIZES:
                    self.assertEqual(call(*size, text), [-3], size)
                for size in SIZES:
                    self.assertEqual(call(*size, text), [-1], size)

    def test_sizes_come_ahead_of_the_face(self):
        for size in NO_SIZES:
            self.assertEqual(desk.tiles(4294967295, *size, house_bytes("block")), [-3], size)
            self.assertEqual(desk.courses(4294967295, *size, house_bytes("block")), [-3], size)


class RowRefusals(unittest.TestCase):
    def test_one_wrong_size_anywhere_in_the_row(self):
        text = house_bytes("block")
        for count in (1, 2, 3, 64):
            for place in range(count):
                for wrong in ((3, 1), (2, 0), (0, 1), (66, 1), (2, 65), (4294967295, 4294967295)):
                    sizes = [2, 1] * count
                    self.assertEqual(desk.size(text, sizes)[0], 0)
                    sizes[2 * place:2 * place + 2] = wrong
                    self.assertEqual(desk.size(text, sizes), [-3], (count, place, wrong))

    def test_width_and_height_are_not_mistaken_for_each_other(self):
        text = house_bytes("block")
        self.assertEqual(desk.size(text, [1, 2]), [-3])
        self.assertEqual(desk.size(text, [2, 1, 1, 2]), [-3])
        self.assertEqual(desk.size(text, [4, 3, 2, 5])[0], 0)

    def test_sizes_come_ahead_of_the_text(self):
        for text in WRONG:
            self.assertEqual(desk.size(text, [2, 1] * 63 + [2, 0]), [-3])
            self.assertEqual(desk.size(text, [3, 1] + [2, 1] * 63), [-3])

    def test_the_text_comes_ahead_of_an_empty_row(self):
        for text in WRONG:
            self.assertEqual(desk.size(text, []), [-1])

    def test_an_empty_row(self):
        for name in ("one cell", "courts", "256 cells"):
            self.assertEqual(desk.size(house_bytes(name), []), [-7])


class FaceNumberRefusals(unittest.TestCase):
    def test_the_last_face_and_none(self):
        for call in OF_A_FACE:
            for name in ("one cell", "L", "U", "courts", "256 cells"):
                text = house_bytes(name)
                count = desk.faces(text)[0]
                self.assertGreaterEqual(call(count - 1, text)[0], 0, name)
                for k in (count, count + 1, 65536, 4294967294, 4294967295):
                    self.assertEqual(call(k, text), [-6], (name, k))

    def test_the_text_comes_ahead_of_the_face(self):
        for call in OF_A_FACE:
            for text in WRONG:
                for k in (0, 4, 4294967295):
                    self.assertEqual(call(k, text), [-1])


if __name__ == "__main__":
    unittest.main()
