"""Promise 4: where water ends, and what walls and corners get."""

import unittest
from collections import Counter
from concurrent.futures import ProcessPoolExecutor

from rooftold import desk
from tests.houses import (HOUSES, STEPS, all_triangles, answers_over, block, built_house, cells_of, grown_house,
                          house_bytes, in_rows, text_of, walks_in, walks_of)

GROWN = [grown_house(seed, 10 + 6 * seed, 7, 6, west=seed) for seed in range(4)] + [built_house(n) for n in range(4)]


def walls_along(walks):
    return [(corner, walk[(n + 1) % len(walk)]) for walk in walks for n, corner in enumerate(walk)]


def is_inward(corner, cells):
    x, y = corner
    return sum((a, b) in cells for a in (x - 1, x) for b in (y - 1, y)) == 3


class Rain(unittest.TestCase):
    @classmethod
    def setUpClass(cls):
        cls.plans = {name: cells_of(name) for name in HOUSES}
        cls.plans.update({f"grown {n}": cells for n, cells in enumerate(GROWN)})
        with ProcessPoolExecutor() as pool:
            cls.drops = {name: answers_over(desk.drop, all_triangles(cells), pool, text_of(cells))
                         for name, cells in cls.plans.items()}
        cls.rows = {name: in_rows(desk.walls(text_of(cells)), 3) for name, cells in cls.plans.items()}
        cls.walls = {name: walls_along(walks_of(cells)) for name, cells in cls.plans.items()}

    def test_every_triangles_water_has_one_end(self):
        for name, cells in self.plans.items():
            with self.subTest(name):
                for triangle, answer in self.drops[name].items():
                    if answer[0] == 0:
                        self.check_eave(answer, name, cells)
                    else:
                        self.check_corner(answer, name, cells)

    def check_eave(self, answer, name, cells):
        kind, i, j, side, number = answer
        a, b = STEPS[side]
        self.assertIn((i // 2, j // 2), cells)
        self.assertNotIn(((i + a) // 2, (j + b) // 2), cells)
        (x, y), (u, v) = self.walls[name][number]
        # The side's middle, in quarters of a foot, lies on the wall.
        middle = (2 * i + 1 + a, 2 * j + 1 + b)
        self.assertTrue(4 * min(x, u) <= middle[0] <= 4 * max(x, u), answer)
        self.assertTrue(4 * min(y, v) <= middle[1] <= 4 * max(y, v), answer)

    def check_corner(self, answer, name, cells):
        kind, x, y, number = answer
        self.assertEqual(kind, 1)
        corner = self.walls[name][number][0]
        self.assertEqual((x, y), (2 * corner[0], 2 * corner[1]))
        self.assertTrue(is_inward(corner, cells))

    def test_eaves_keep_their_own_water(self):
        for name, cells in self.plans.items():
            with self.subTest(name):
                for (i, j, s), answer in self.drops[name].items():
                    if ((i + STEPS[s][0]) // 2, (j + STEPS[s][1]) // 2) not in cells:
                        self.assertEqual(answer[:4], [0, i, j, s])

    def test_all_water_together_is_sixteen_for_each_cell(self):
        for name, cells in self.plans.items():
            with self.subTest(name):
                self.assertEqual(sum(wall + corner for wall, corner, feet in self.rows[name]), 16 * len(cells))

    def test_inward_corners_alone_get_water_and_each_does(self):
        for name, cells in self.plans.items():
            with self.subTest(name):
                got = [corner > 0 for wall, corner, feet in self.rows[name]]
                self.assertEqual(got, [is_inward(corner, cells) for corner, following in self.walls[name]])

    def test_each_wall_gets_two_for_each_foot_at_least(self):
        for name in self.plans:
            with self.subTest(name):
                for wall, corner, feet in self.rows[name]:
                    self.assertGreaterEqual(wall, 2 * feet)

    def test_drop_and_walls_agree(self):
        for name in self.plans:
            with self.subTest(name):
                ends = Counter((answer[0], answer[-1]) for answer in self.drops[name].values())
                told = [(ends[(0, n)], ends[(1, n)]) for n in range(len(self.walls[name]))]
                self.assertEqual([row[:2] for row in self.rows[name]], told)

    def test_walls_are_in_the_order_of_the_text(self):
        for name in HOUSES:
            with self.subTest(name):
                feet = [abs(u - x) + abs(v - y) for (x, y), (u, v) in walls_along(walks_in(name))]
                self.assertEqual([row[2] for row in self.rows[name]], feet)


class ByHand(unittest.TestCase):
    def test_walls_of_an_L(self):
        rows = in_rows(desk.walls(house_bytes("L")), 3)
        self.assertEqual(rows, [(48, 0, 4), (16, 0, 2), (24, 0, 2), (8, 16, 1), (16, 0, 2), (32, 0, 3)])

    def test_walls_of_a_block(self):
        rows = in_rows(desk.walls(house_bytes("block")), 3)
        self.assertEqual(rows, [(48, 0, 4), (16, 0, 2), (48, 0, 4), (16, 0, 2)])

    def test_walls_of_a_court_come_behind_the_outer_ones(self):
        # An outer wall gets four from each of four half-cells and two from each at its ends; one of the court's gets
        # four from two half-cells; one valley's half-cell runs to each of the court's corners.
        rows = in_rows(desk.walls(house_bytes("court")), 3)
        self.assertEqual(rows, [(20, 0, 3)] * 4 + [(8, 4, 1)] * 4)

    def test_several_courts_are_walked_in_order(self):
        # The text's second walk is the court from (6, 1), its third the one from (2, 2).
        text = house_bytes("courts")
        self.assertEqual([row[2] for row in in_rows(desk.walls(text), 3)], [9, 5, 9, 5, 3, 2, 3, 2, 1, 2, 1, 2])
        # West of the first court, south of the second one, north of it.
        self.assertEqual(desk.drop(11, 4, 1, text), [0, 11, 4, 1, 4])
        self.assertEqual(desk.drop(5, 3, 2, text), [0, 5, 3, 2, 11])
        self.assertEqual(desk.drop(5, 6, 0, text), [0, 5, 6, 0, 9])

    def test_a_corners_number_is_that_of_the_wall_that_begins_at_it(self):
        # Corners of the U: (3, 2) is the fifth and (2, 2) the sixth.
        text = house_bytes("U")
        self.assertEqual(desk.drop(6, 3, 0, text), [1, 6, 4, 4])
        self.assertEqual(desk.drop(3, 3, 0, text), [1, 4, 4, 5])

    def test_water_of_the_highest_triangles_runs_all_the_way_down(self):
        text = text_of(block(48, 48, 16, 16))
        self.assertEqual(desk.drop(112, 111, 0, text), [0, 112, 96, 0, 0])
        self.assertEqual(desk.drop(112, 112, 1, text), [0, 127, 112, 1, 1])
        self.assertEqual(desk.drop(111, 112, 2, text), [0, 111, 127, 2, 2])
        self.assertEqual(desk.drop(111, 111, 3, text), [0, 96, 111, 3, 3])

    def test_water_down_a_long_valley(self):
        # An L of two wings, six feet wide each: the valley from its inward corner (6, 6) up to (3, 3).
        text = text_of(block(0, 0, 14, 6) | block(0, 6, 6, 6))
        for n in range(6, 12):
            for s in range(4):
                self.assertEqual(desk.drop(n, n, s, text), [1, 12, 12, 3])
        self.assertEqual(desk.drop(12, 11, 3, text), [0, 12, 11, 2, 2])


if __name__ == "__main__":
    unittest.main()
