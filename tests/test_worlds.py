"""The tests' own worlds: there are as many pictures as there must be, of all kinds."""

import unittest

from tests.worlds import GREAT, SMALL, all_worlds, free_set, page_cells, pictures_of, some_pictures
from whatmovesbuy.units import kind


class Worlds(unittest.TestCase):
    def test_how_many(self):
        told = {((1, 2), (0, 4)): 25, ((1, 2), (0, 1, 2)): 125, ((1, 2, 4), (0, 3)): 676, ((1, 2, 4, 8), (5,)): 677,
                ((1, 3, 6), (7,)): 82, ((1, 2), ()): 1}
        for (sizes, pages), many in told.items():
            found = pictures_of(sizes, pages)
            self.assertEqual(len({tuple(sorted(block[1:] for block in picture)) for picture in found}), many)
            self.assertEqual(len(found), many)

    def test_of_all_kinds(self):
        self.assertEqual({kind(*world) for world in all_worlds()}, {"smooth", "page", "deep", None})
        for sizes, pages in SMALL + GREAT:
            self.assertEqual(len(page_cells(sizes, pages)), len(pages) * sizes[-1])
        for sizes, pages in GREAT:
            many = {len(free_set(sizes, pages, picture)) for picture in some_pictures(sizes, pages, 60)}
            self.assertGreater(len(many), 3)


if __name__ == "__main__":
    unittest.main()
