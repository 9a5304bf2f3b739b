"""Promises 1, 2 and 3, and the orders told, over the houses written by hand and some that are grown."""

import unittest
from concurrent.futures import ProcessPoolExecutor

from rooftold import desk
from tests.houses import (HOUSES, STEPS, LiteralRoof, all_triangles, answers_over, built_house, cells_of, grown_house,
                          in_rows, text_of)

GROWN = [grown_house(seed, 8 + 5 * seed, 7, 6, west=seed) for seed in range(6)] + [built_house(n) for n in range(4)]


def by_row(triangle):
    return triangle[1], triangle[0], triangle[2]


def feet_of_wall(cells):
    return sum((x + a, y + b) not in cells for x, y in cells for a, b in STEPS.values())


class Promises(unittest.TestCase):
    @classmethod
    def setUpClass(cls):
        cls.plans = {name: cells_of(name) for name in HOUSES}
        cls.plans.update({f"grown {n}": cells for n, cells in enumerate(GROWN)})
        with ProcessPoolExecutor() as pool:
            cls.asked = {name: answers_over(desk.face, all_triangles(cells), pool, text_of(cells))
                         for name, cells in cls.plans.items()}
        cls.faces = {name: in_rows(desk.faces(text_of(cells)), 6) for name, cells in cls.plans.items()}

    def test_the_houses_are_what_they_are_called(self):
        for name, (text, cells, feet) in HOUSES.items():
            with self.subTest(name):
                self.assertEqual(bytes(text_of(self.plans[name])).decode(), text)
                self.assertEqual(len(self.plans[name]), cells)
                self.assertEqual(feet_of_wall(self.plans[name]), feet)

    def test_promise_1_sixteen_triangles_a_cell(self):
        for name, cells in self.plans.items():
            with self.subTest(name):
                self.assertEqual(sum(row[1] for row in self.faces[name]), 16 * len(cells))

    def test_promise_1_two_eaves_a_foot_of_wall(self):
        for name, cells in self.plans.items():
            with self.subTest(name):
                self.assertEqual(sum(row[2] for row in self.faces[name]), 2 * feet_of_wall(cells))

    def test_promise_1_every_triangle_in_one_face(self):
        for name, cells in self.plans.items():
            with self.subTest(name):
                counts = [0] * len(self.faces[name])
                for answer in self.asked[name].values():
                    self.assertEqual(len(answer), 1)
                    self.assertTrue(0 <= answer[0] < len(counts), answer)
                    counts[answer[0]] += 1
                self.assertEqual(counts, [row[1] for row in self.faces[name]])

    def test_promise_2_a_face_lies_in_one_plane(self):
        for name, cells in self.plans.items():
            with self.subTest(name):
                roof = LiteralRoof(cells)
                planes = {}
                for triangle, (number,) in self.asked[name].items():
                    a, b = STEPS[self.faces[name][number][0]]
                    for x, y in roof.ends(*triangle):
                        planes.setdefault(number, set()).add(roof.height(x, y) + a * x + b * y)
                self.assertEqual({number: len(plane) for number, plane in planes.items()}, dict.fromkeys(planes, 1))
                self.assertEqual(len(planes), len(self.faces[name]))

    def test_promise_3_each_half_foot_of_wall_is_faced(self):
        for name, cells in self.plans.items():
            with self.subTest(name):
                eaves = [0] * len(self.faces[name])
                for (i, j, s), (number,) in self.asked[name].items():
                    beyond = ((i + STEPS[s][0]) // 2, (j + STEPS[s][1]) // 2)
                    if beyond not in cells:
                        self.assertEqual(self.faces[name][number][0], s)
                        eaves[number] += 1
                self.assertEqual(eaves, [row[2] for row in self.faces[name]])

    def test_promise_3_lines_tell_their_faces_and_ends_in_order(self):
        for name, cells in self.plans.items():
            with self.subTest(name):
                rows = in_rows(desk.lines(text_of(cells)), 7)
                for kind, lesser, greater, x, y, u, v in rows:
                    self.assertIn(kind, (0, 1, 2))
                    self.assertTrue(0 <= lesser < greater < len(self.faces[name]))
                    self.assertLess((y, x), (v, u))
                order = [(row[1], row[2], row[4], row[3]) for row in rows]
                self.assertEqual(order, sorted(set(order)))

    def test_lines_run_straight_or_at_half_a_right_angle(self):
        for name, cells in self.plans.items():
            with self.subTest(name):
                for kind, lesser, greater, x, y, u, v in in_rows(desk.lines(text_of(cells)), 7):
                    facings = self.faces[name][lesser][0], self.faces[name][greater][0]
                    self.assertEqual(kind == 0, (facings[0] - facings[1]) % 4 == 2)
                    self.assertEqual(kind == 0, x == u or y == v)
                    self.assertTrue(kind == 0 or abs(u - x) == v - y)

    def test_each_inward_corner_has_a_valley_and_each_outward_one_a_hip(self):
        for name, cells in self.plans.items():
            with self.subTest(name):
                ends = [(row[0], end) for row in in_rows(desk.lines(text_of(cells)), 7) for end in (row[3:5], row[5:7])]
                for x in range(65):
                    for y in range(65):
                        around = [(a, b) in cells for a in (x - 1, x) for b in (y - 1, y)]
                        kinds = [kind for kind, end in ends if end == (2 * x, 2 * y)]
                        if sum(around) in (1, 3):
                            self.assertEqual(kinds, [1 if sum(around) == 1 else 2])

    def test_faces_are_in_the_order_of_their_first_triangles(self):
        for name, cells in self.plans.items():
            with self.subTest(name):
                firsts = {}
                for triangle, (number,) in self.asked[name].items():
                    firsts[number] = min(firsts.get(number, triangle), triangle, key=by_row)
                told = [row[3:] for row in self.faces[name]]
                self.assertEqual(told, [firsts[number] for number in range(len(told))])
                self.assertEqual(told, sorted(told, key=by_row))


if __name__ == "__main__":
    unittest.main()
