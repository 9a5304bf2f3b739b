"""The whole program: all thirteen calls, the seven promises over the greatest houses, right and wrong texts."""

import inspect
import itertools
import unittest

from rooftold import desk
from tests.houses import (HOUSES, LiteralRoof, block, cells_of, comb, every_call, house_bytes, in_rows, is_house,
                          stairs, text_of)

CALLS = "faces face lines drop walls tiles courses roof size change lot keeps free".split()
GREATEST = {
    "square": block(48, 48, 16, 16),
    "lying": block(0, 60, 64, 4),
    "standing": block(60, 0, 4, 64),
    "comb": comb(),
    "round a great court": block(0, 0, 64, 64) - block(1, 1, 62, 62),
    "stairs": stairs(),
    "full of courts": block(0, 0, 17, 19) - {(x, y) for x in range(1, 17, 2) for y in range(1, 19, 2)},
}


class AllCalls(unittest.TestCase):
    def test_they_are_there(self):
        for name in CALLS:
            self.assertTrue(inspect.isfunction(getattr(desk, name)), name)

    def test_right_texts_are_not_refused(self):
        for text in [house_bytes(name) for name in HOUSES if (0, 0) in cells_of(name)]:
            for answer in every_call(desk, text):
                self.assertGreaterEqual(answer[0], 0)

    def test_a_right_text_cut_off_anywhere_is_refused(self):
        for name in ("one cell", "court", "north-west corner"):
            text = house_bytes(name)
            for length in range(len(text)):
                if text[:length][-1:] != [10]:
                    for answer in every_call(desk, text[:length]):
                        self.assertEqual(answer, [-1])

    def test_4096_bytes(self):
        line = b"0,0 1,0 1,1 0,1\n"
        for text in ([0] * 4096, [255] * 4096, [10] * 4096, list(line * 256), list(line) + [32] * 4080):
            self.assertEqual(len(text), 4096)
            for answer in every_call(desk, text):
                self.assertEqual(answer, [-1])


class GreatestHouses(unittest.TestCase):
    @classmethod
    def setUpClass(cls):
        cls.texts = {name: text_of(cells) for name, cells in GREATEST.items()}

    def each(self):
        return [(name, cells, self.texts[name]) for name, cells in GREATEST.items()]

    def test_they_are_houses(self):
        for name, cells, text in self.each():
            with self.subTest(name):
                self.assertTrue(is_house(cells) and len(cells) > 240)
                self.assertLessEqual(len(text), 4096)

    def test_promise_1(self):
        for name, cells, text in self.each():
            with self.subTest(name):
                rows = in_rows(desk.faces(text), 6)
                feet = sum(row[2] for row in in_rows(desk.walls(text), 3))
                self.assertEqual(sum(row[1] for row in rows), 16 * len(cells))
                self.assertEqual(sum(row[2] for row in rows), 2 * feet)

    def test_promises_2_and_3_as_the_words_tell(self):
        for name, cells, text in self.each():
            with self.subTest(name):
                told = LiteralRoof(cells)
                self.assertEqual(desk.faces(text), told.faces_answer())
                for kind, lesser, greater, x, y, u, v in in_rows(desk.lines(text), 7):
                    self.assertLess(lesser, greater)
                    self.assertLess((y, x), (v, u))

    def test_promise_4(self):
        for name, cells, text in self.each():
            with self.subTest(name):
                rows = in_rows(desk.walls(text), 3)
                self.assertEqual(sum(wall + corner for wall, corner, feet in rows), 16 * len(cells))
                self.assertTrue(all(wall >= 2 * feet for wall, corner, feet in rows))

    def test_promise_5(self):
        for name, cells, text in self.each():
            with self.subTest(name):
                faces = in_rows(desk.faces(text), 6)
                for k in range(0, len(faces), 1 + len(faces) // 8):
                    courses = in_rows(desk.courses(k, 4, 1, text), 3)
                    self.assertEqual(sum(course[2] for course in courses), faces[k][1])
                    together = [sum(course[0] for course in courses), sum(course[1] for course in courses)]
                    self.assertEqual(desk.tiles(k, 4, 1, text), together)
                whole, cut, courses = desk.roof(4, 1, text)
                self.assertEqual(desk.size(text, [4, 1] * 64), [0, whole, cut])

    def test_promise_6(self):
        for one, other in itertools.combinations(GREATEST, 2):
            stay, changed, new, gone = desk.change(self.texts[one], self.texts[other])
            self.assertEqual(stay + changed + gone, 16 * len(GREATEST[one]))
            self.assertEqual(stay + changed + new, 16 * len(GREATEST[other]))
            self.assertEqual(desk.change(self.texts[other], self.texts[one]), [stay, changed, gone, new])

    def test_promise_7(self):
        for name, cells, text in self.each():
            with self.subTest(name):
                count = desk.faces(text)[0]
                self.assertEqual(desk.change(text, text), [16 * len(cells), 0, 0, 0])
                self.assertEqual(desk.keeps(text, text), [count] + [1] * count)
                for k in (0, count // 2, count - 1):
                    free = in_rows(desk.free(k, text), 2)
                    self.assertEqual(free == [], len(cells) == 256, name)
                    for cell in free[::1 + len(free) // 8]:
                        self.assertEqual(desk.keeps(text, text_of(cells | {cell}))[1 + k], 1)


if __name__ == "__main__":
    unittest.main()
