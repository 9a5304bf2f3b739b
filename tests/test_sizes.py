"""size: the fewest tiles, of equal ones the fewest cut, of those the first."""

import random
import unittest

from rooftold import desk
from tests.houses import HOUSES, LiteralRoof, built_house, house_bytes, text_of

ALL_SIZES = [(wide, high) for wide in range(2, 65, 2) for high in range(1, 65)]


def flat(sizes):
    return [number for size in sizes for number in size]


class Sizes(unittest.TestCase):
    def check(self, text, sizes):
        """The answer, once it's held against what roof tells of each size."""
        roofs = [desk.roof(*size, text) for size in sizes]
        answer = desk.size(text, flat(sizes))
        wants = [(whole + cut, cut, n) for n, (whole, cut, courses) in enumerate(roofs)]
        self.assertEqual(answer[0], min(wants)[2], sizes)
        self.assertEqual(answer[1:], roofs[answer[0]][:2], sizes)
        return answer

    def test_a_row_of_one(self):
        for name in HOUSES:
            for size in ((2, 1), (64, 64), (6, 3)):
                self.assertEqual(self.check(house_bytes(name), [size])[0], 0)

    def test_rows_of_64(self):
        chance = random.Random(5)
        for name in ("one cell", "bar", "L", "U", "courts", "256 cells"):
            sizes = chance.sample(ALL_SIZES, 64)
            self.check(house_bytes(name), sizes)
            self.check(house_bytes(name), sizes[::-1])

    def test_the_last_of_64(self):
        for name in ("block", "courts"):
            self.assertEqual(self.check(house_bytes(name), [(2, 1)] * 63 + [(16, 8)])[0], 63)

    def test_the_fewest_tiles(self):
        text = house_bytes("block")
        self.assertEqual(self.check(text, [(2, 1), (2, 2), (4, 2)])[0], 2)
        self.assertEqual(self.check(text, [(4, 2), (2, 2), (2, 1)])[0], 0)
        self.assertEqual(self.check(text, [(2, 1), (4, 2), (2, 2)])[0], 1)

    def test_fewer_tiles_count_ahead_of_fewer_cut_ones(self):
        text = house_bytes("256 cells")
        few_cut, few = desk.roof(4, 4, text), desk.roof(2, 16, text)
        self.assertLess(few_cut[1], few[1])
        self.assertLess(sum(few[:2]), sum(few_cut[:2]))
        self.assertEqual(self.check(text, [(4, 4), (2, 16)])[0], 1)
        self.assertEqual(self.check(text, [(2, 16), (4, 4)])[0], 0)

    def test_of_equal_ones_the_fewest_cut(self):
        for name, more, fewer in (("block", (2, 3), (2, 2)), ("bar", (2, 2), (2, 1)), ("U", (4, 3), (4, 2)),
                                  ("256 cells", (50, 1), (8, 3))):
            text = house_bytes(name)
            one, other = desk.roof(*more, text), desk.roof(*fewer, text)
            self.assertEqual(sum(one[:2]), sum(other[:2]), name)
            self.assertGreater(one[1], other[1], name)
            self.assertEqual(self.check(text, [more, fewer]), [1, *other[:2]])
            self.assertEqual(self.check(text, [fewer, more]), [0, *other[:2]])
            self.assertEqual(self.check(text, [more, more, fewer, more])[0], 2)

    def test_of_those_the_first(self):
        # No house is so deep that 63 high and 64 high differ.
        for name in HOUSES:
            text = house_bytes(name)
            self.assertEqual(desk.roof(64, 63, text), desk.roof(64, 64, text))
            for sizes in ([(64, 63), (64, 64)], [(64, 64), (64, 63)]):
                self.assertEqual(self.check(text, sizes)[0], 0)
                if HOUSES[name][1] > 1:
                    self.assertEqual(self.check(text, [(2, 1)] + sizes)[0], 1)

    def test_one_cell_wants_four_of_any_size(self):
        self.assertEqual(self.check(house_bytes("one cell"), ALL_SIZES[:64]), [0, 0, 4])
        self.assertEqual(self.check(house_bytes("one cell"), ALL_SIZES[-64:]), [0, 0, 4])

    def test_the_same_size_twice(self):
        for name in ("block", "L", "courts"):
            text = house_bytes(name)
            self.assertEqual(self.check(text, [(6, 4), (6, 4)])[0], 0)
            self.assertEqual(self.check(text, [(2, 1), (6, 4), (2, 1), (6, 4)])[0], 1)
            self.assertEqual(self.check(text, [(6, 4)] * 64)[0], 0)

    def test_as_the_words_tell_it(self):
        chance = random.Random(6)
        for seed in range(20):
            cells = built_house(seed)
            sizes = [chance.choice(ALL_SIZES[:300]) for count in range(chance.randint(1, 8))]
            self.assertEqual(desk.size(text_of(cells), flat(sizes)), LiteralRoof(cells).size_answer(sizes), sizes)


if __name__ == "__main__":
    unittest.main()
