"""Which sets of cells are houses, and that a house's walks lead back to its cells."""

import itertools
import unittest

from rooftold import plans
from tests.houses import block, built_house, is_house, stairs, walks_of

SMALL = [(x, y) for y in range(4) for x in range(3)]


def as_dict(cells):
    return dict.fromkeys(sorted(cells), True)


class Plans(unittest.TestCase):
    def test_which_sets_are_houses(self):
        for chosen in itertools.product((False, True), repeat=len(SMALL)):
            cells = {cell for cell, is_in in zip(SMALL, chosen) if is_in}
            self.assertEqual(plans.is_house(as_dict(cells)), is_house(cells), cells)

    def test_how_many_cells(self):
        self.assertTrue(plans.is_house(as_dict(block(0, 0, 16, 16))))
        self.assertFalse(plans.is_house(as_dict(block(0, 0, 16, 16) | {(16, 0)})))
        self.assertFalse(plans.is_house({}))

    def test_walks_and_cells_lead_to_each_other(self):
        for cells in [stairs()] + [built_house(seed) for seed in range(40)]:
            walks = plans.walks_round(as_dict(cells))
            self.assertEqual(walks, walks_of(cells))
            self.assertEqual(set(plans.cells_within(walks)), cells)


if __name__ == "__main__":
    unittest.main()
