"""Promise 6, and of promise 7 that all of a house stays from it to itself: change, lot, keeps."""

import unittest
from collections import Counter
from concurrent.futures import ProcessPoolExecutor

from rooftold import desk
from tests.houses import (HOUSES, LiteralRoof, all_triangles, answers_over, block, built_house, cells_in_drawing,
                          cells_of, grown_house, house_bytes, in_rows, small_houses, stairs, text_of)

RING = block(20, 20, 5, 5) - block(21, 21, 3, 3)

PAIRS = {
    "one within the other": (block(1, 1, 2, 2), block(0, 0, 5, 4)),
    "a wing built on": (cells_of("block"), cells_of("L")),
    "a cell built on a corner": (cells_of("block"), cells_of("block") | {(4, 1)}),
    "overlapping in part": (block(0, 0, 6, 3), block(3, 1, 6, 4)),
    "overlapping in one cell": (block(2, 2, 4, 4), block(5, 5, 4, 4)),
    "crossing": (block(0, 4, 11, 3), block(4, 0, 3, 11)),
    "no cell in common": (block(0, 0, 4, 3), block(4, 0, 3, 3)),
    "far from each other": (cells_of("one cell"), cells_of("last cell")),
    "a court filled": (cells_of("court"), block(0, 0, 3, 3)),
    "a wide court filled": (cells_of("wide court"), block(5, 5, 8, 7)),
    "a court filled in part": (RING, RING | {(21, 21), (22, 21)}),
    "one court of two filled": (cells_of("courts"), cells_of("courts") | block(6, 1, 2, 3)),
    "what stands in a court and what stands round it": (block(21, 21, 3, 3), RING),
    "along the edges": (block(0, 0, 30, 1) | block(0, 0, 1, 20), block(0, 0, 20, 1) | block(0, 0, 1, 30)),
    "at the north-west corner": (cells_of("north-west corner"), block(0, 61, 3, 3)),
    "moved by a foot into the far corner": (block(57, 57, 6, 6), block(58, 58, 6, 6)),
    "grown": (grown_house(3, 40, 9, 9), grown_house(4, 40, 9, 9)),
    "built": (built_house(6), built_house(7)),
}

# Too many triangles to ask for each of them.
GREAT_PAIRS = {
    "from 255 cells to 256": (block(0, 0, 16, 16) - {(15, 15)}, block(0, 0, 16, 16)),
    "at all edges": (cells_of("south and east edge"), block(60, 0, 4, 64)),
    "lying and standing": (block(0, 0, 64, 4), block(0, 0, 4, 64)),
}


class Building(unittest.TestCase):
    @classmethod
    def setUpClass(cls):
        cls.texts = {name: (text_of(before), text_of(after)) for name, (before, after) in PAIRS.items()}
        cls.great = {name: (text_of(before), text_of(after)) for name, (before, after) in GREAT_PAIRS.items()}
        cls.changes = {name: desk.change(*texts) for name, texts in {**cls.texts, **cls.great}.items()}
        cls.lots, cls.before, cls.after = {}, {}, {}
        with ProcessPoolExecutor() as pool:
            for name, (before, after) in PAIRS.items():
                t, u = cls.texts[name]
                cls.lots[name] = answers_over(desk.lot, all_triangles(before | after), pool, t, u)
                cls.before[name] = answers_over(desk.face, all_triangles(before), pool, t)
                cls.after[name] = answers_over(desk.face, all_triangles(after), pool, u)

    def test_sixteen_for_each_cell_before_and_after(self):
        for name, (before, after) in {**PAIRS, **GREAT_PAIRS}.items():
            with self.subTest(name):
                stay, changed, new, gone = self.changes[name]
                self.assertEqual(stay + changed + gone, 16 * len(before))
                self.assertEqual(stay + changed + new, 16 * len(after))

    def test_the_other_way_round(self):
        for name, (t, u) in {**self.texts, **self.great}.items():
            with self.subTest(name):
                stay, changed, new, gone = self.changes[name]
                self.assertEqual(desk.change(u, t), [stay, changed, gone, new])

    def test_lot_tells_new_and_gone_by_the_cells(self):
        for name, (before, after) in PAIRS.items():
            with self.subTest(name):
                for (i, j, s), answer in self.lots[name].items():
                    was, will = (i // 2, j // 2) in before, (i // 2, j // 2) in after
                    told = {(True, True): ([0], [1]), (False, True): ([2],), (True, False): ([3],)}[(was, will)]
                    self.assertIn(answer, told)

    def test_what_stays_faces_the_same_way_in_both(self):
        for name, (t, u) in self.texts.items():
            with self.subTest(name):
                ways_before = [row[0] for row in in_rows(desk.faces(t), 6)]
                ways_after = [row[0] for row in in_rows(desk.faces(u), 6)]
                for triangle, answer in self.lots[name].items():
                    if answer == [0]:
                        before, after = self.before[name][triangle][0], self.after[name][triangle][0]
                        self.assertEqual(ways_before[before], ways_after[after], triangle)

    def test_change_and_lot_agree(self):
        for name in PAIRS:
            with self.subTest(name):
                counts = Counter(answer[0] for answer in self.lots[name].values())
                self.assertEqual(self.changes[name], [counts[n] for n in range(4)])

    def test_keeps_and_lot_agree(self):
        for name, (t, u) in self.texts.items():
            with self.subTest(name):
                stay = [1] * desk.faces(t)[0]
                for triangle, (number,) in self.before[name].items():
                    if self.lots[name][triangle] != [0]:
                        stay[number] = 0
                self.assertEqual(desk.keeps(t, u), [len(stay)] + stay)


class ToItself(unittest.TestCase):
    def test_all_of_a_house_stays(self):
        texts = [house_bytes(name) for name in HOUSES] + [text_of(stairs())]
        for text in texts + [text_of(built_house(seed)) for seed in range(6)]:
            rows = in_rows(desk.faces(text), 6)
            count = sum(row[1] for row in rows)
            for other in (text, list(text)):
                self.assertEqual(desk.change(text, other), [count, 0, 0, 0])
                self.assertEqual(desk.keeps(text, other), [len(rows)] + [1] * len(rows))

    def test_each_triangle_stays(self):
        for name in ("one cell", "L", "court"):
            for triangle in all_triangles(cells_of(name)):
                self.assertEqual(desk.lot(*triangle, house_bytes(name), house_bytes(name)), [0])


class AsTheWordsTell(unittest.TestCase):
    def check(self, before, after):
        t, u = text_of(before.cells), text_of(after.cells)
        self.assertEqual(desk.change(t, u), before.change_answer(after), (bytes(t), bytes(u)))
        self.assertEqual(desk.keeps(t, u), before.keeps_answer(after), (bytes(t), bytes(u)))
        triangles = all_triangles(before.cells | after.cells)
        for triangle in triangles[::len(triangles) // 5]:
            self.assertEqual(desk.lot(*triangle, t, u), [before.lot(triangle, after)], (bytes(t), bytes(u)))

    def test_every_two_houses_in_three_by_two_cells(self):
        roofs = [LiteralRoof(cells) for cells in small_houses(3, 2)]
        for before in roofs:
            for after in roofs:
                self.check(before, after)

    def test_built_houses(self):
        roofs = [LiteralRoof(built_house(seed)) for seed in range(24)]
        for before, after in zip(roofs, roofs[1:]):
            self.check(before, after)

    def test_the_pairs(self):
        for before, after in [*PAIRS.values(), *GREAT_PAIRS.values()]:
            self.check(LiteralRoof(before), LiteralRoof(after))
            self.check(LiteralRoof(after), LiteralRoof(before))


class ByHand(unittest.TestCase):
    def test_faces_that_go_on_further_up_stay(self):
        # A foot more to the north: the three other faces go on further up, but of what they had all stays.
        t, u = house_bytes("block"), text_of(block(0, 0, 4, 3))
        self.assertEqual(desk.keeps(t, u), [4, 1, 1, 1, 0])
        self.assertEqual([desk.lot(3, 0, s, t, u) for s in range(4)], [[0]] * 4)
        self.assertEqual([desk.lot(3, 3, s, t, u) for s in range(4)], [[1]] * 4)
        self.assertEqual(desk.lot(3, 4, 0, t, u), [2])
        self.assertEqual(desk.lot(3, 4, 0, u, t), [3])

    def test_as_deep_yet_changed(self):
        # P to R: half-cell (3, 0) lies as deep as before, but the point (4, 1) is higher.
        t, u = list(b"0,0 2,0 2,1 0,1\n"), list(b"0,0 3,0 3,1 0,1\n")
        self.assertEqual([desk.lot(3, 0, s, t, u) for s in range(4)], [[0], [1], [1], [0]])

    def test_a_court_filled_lets_the_outer_faces_stay(self):
        # Round the court all outer half-cells lie 0 deep; the court's own faces are gone.
        t, u = house_bytes("court"), text_of(block(0, 0, 3, 3))
        rows = in_rows(desk.faces(t), 6)
        outer = [row[1] == 20 for row in rows]
        self.assertEqual(outer.count(True), 4)
        self.assertEqual(desk.keeps(t, u), [8] + [int(is_outer) for is_outer in outer])
        self.assertEqual(desk.change(t, u), [80, 48, 16, 0])

    def test_a_far_wing_touches_nothing(self):
        near = cells_in_drawing(["##....##", "##....##", "########", "########"])
        t, u = text_of(near), text_of(near | {(7, 4)})
        rows = in_rows(desk.faces(t), 6)
        # Of the wing in the west every face stays.
        western = [k for k, row in enumerate(rows) if row[0] in (2, 3) and row[3] < 4]
        self.assertTrue(western)
        for k in western:
            self.assertEqual(desk.keeps(t, u)[1 + k], 1)
        self.assertIn(0, desk.keeps(t, u))


if __name__ == "__main__":
    unittest.main()
