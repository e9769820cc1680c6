"""As great as what is passed may be: answers come soon, also where all numbers are great."""

import time
import unittest

from whatmovesbuy import gather, moves, pictures, takes, units
from whatmovesbuy.errors import Broken
from whatmovesbuy.words import number_octets

# Answers take some thousandths of this; a slow machine must not fail, what counts through all numbers never ends.
SECONDS = 2
SIZES = (1, 4, 8, 32, 64)
FIRST = 10 ** 31 - 63
PAGES = tuple(range(FIRST, FIRST + 64))
CELL = FIRST * 64
HANDLE = 10 ** 31 - 2000
# In the first half of the pages each other unit of four cells has three blocks of one; most between have one of four.
ONES = [(1, CELL + 4 * at + part) for at in range(0, 512, 2) for part in range(3)]
FOURS = [(4, CELL + 4 * at) for at in range(1, 464, 2)]
PICTURE = tuple((HANDLE + at, size, place) for at, (size, place) in enumerate(ONES + FOURS))


class Great(unittest.TestCase):
    def soon(self, call, *rest):
        """What a call returns, in time."""
        begin = time.perf_counter()
        told = call(*rest)
        self.assertLess(time.perf_counter() - begin, SECONDS, call.__name__)
        return told

    def test_of_pages(self):
        self.assertEqual(len(PICTURE), 1000)
        self.assertEqual(len(self.soon(pictures.units, SIZES, PAGES, 0)), 4096)
        self.assertEqual(self.soon(pictures.parent, SIZES, PAGES, 0, CELL + 4095), (1, CELL + 4092))
        self.assertEqual(len(self.soon(pictures.children, (1, 64), PAGES, 1, CELL)), 64)
        self.assertTrue(self.soon(pictures.is_within, SIZES, PAGES, (0, CELL + 70), (4, CELL + 64)))

    def test_of_pictures(self):
        held = 768 + 4 * 232
        self.assertEqual(self.soon(pictures.free_cells, SIZES, PAGES, PICTURE), 4096 - held)
        self.assertEqual(self.soon(pictures.held_cells, SIZES, PAGES, PICTURE), held)
        self.assertEqual(len(self.soon(pictures.free_units, SIZES, PAGES, PICTURE, 0)), 4096 - held)
        self.assertEqual(len(self.soon(pictures.holes, SIZES, PAGES, PICTURE)), 256 + 24 + 32)
        self.assertTrue(self.soon(pictures.is_free, SIZES, PAGES, PICTURE, 4, CELL + 4032))
        self.assertEqual(self.soon(pictures.block_of, SIZES, PAGES, PICTURE, HANDLE + 999), PICTURE[999])
        self.assertEqual(len(self.soon(pictures.blocks_in, SIZES, PAGES, PICTURE, 4, CELL)), 32)
        self.assertEqual(len(self.soon(pictures.without, SIZES, PAGES, PICTURE, HANDLE)), 999)
        more = self.soon(pictures.with_block, SIZES, PAGES, PICTURE, (HANDLE - 1, 64, CELL + 4032))
        self.assertEqual(more[1:], PICTURE)

    def test_of_octets(self):
        octets = self.soon(pictures.picture_octets, SIZES, PAGES, PICTURE)
        self.assertEqual(self.soon(pictures.picture_at, SIZES, PAGES, octets, 0), (PICTURE, len(octets)))
        many = number_octets(10 ** 31)
        with self.assertRaises(Broken) as told:
            self.soon(pictures.picture_at, SIZES, PAGES, many + octets[2:], 0)
        self.assertEqual(told.exception.at, len(many + octets[2:]))

    def test_of_torn_units(self):
        self.assertEqual(len(self.soon(units.torn, SIZES, PAGES, PICTURE, 0)), 256)
        self.assertEqual(len(self.soon(units.torn_units, SIZES, PAGES, PICTURE, 1)), 24)
        self.assertEqual(self.soon(units.free_children, SIZES, PAGES, PICTURE, 1, CELL), (CELL + 3,))
        self.assertEqual(self.soon(units.loose_levels, SIZES, PAGES, PICTURE), (0, 1))
        self.assertFalse(self.soon(units.is_smooth, SIZES, PAGES, PICTURE))
        self.assertEqual(self.soon(units.loose_steps, SIZES, PAGES, PICTURE, 0), 64 * 3)
        self.assertEqual(self.soon(units.hole_counts, SIZES, PAGES, PICTURE), (256, 24, 0, 0, 32))
        self.assertEqual(self.soon(units.free_digits, SIZES, PAGES, PICTURE), (0, 0, 0, 1, 37))
        self.assertIsNone(self.soon(units.kind, SIZES, PAGES, PICTURE))

    def test_of_moves(self):
        row = [(HANDLE + at, CELL + 2048 + at) for at in range(300)]
        behind = self.soon(moves.moved, SIZES, PAGES, PICTURE, row)
        self.assertEqual(len(self.soon(moves.trail, SIZES, PAGES, PICTURE, row)), 301)
        self.assertEqual(self.soon(moves.cost, SIZES, PAGES, PICTURE, row), 300)
        back = self.soon(moves.way_back, SIZES, PAGES, PICTURE, row)
        self.assertEqual(moves.moved(SIZES, PAGES, behind, back), PICTURE)
        self.assertEqual(len(self.soon(moves.elsewhere, SIZES, PAGES, PICTURE, behind)), 300)
        self.assertEqual(self.soon(moves.least_cost, SIZES, PAGES, PICTURE, behind), 300)
        self.assertEqual(len(self.soon(moves.unit_moves, SIZES, PAGES, PICTURE, 4, CELL, CELL + 4032)), 32)

    def test_of_takings(self):
        self.assertEqual(self.soon(takes.least_hole, SIZES, PAGES, PICTURE, 8), (4, CELL + 2048))
        self.assertEqual(self.soon(takes.place_for, SIZES, PAGES, PICTURE, 1), CELL + 3)
        self.assertEqual(self.soon(takes.taken, SIZES, PAGES, PICTURE, 4, 10 ** 31)[-1][1:], (4, CELL + 4 * 465))
        full = self.soon(takes.all_taken, SIZES, PAGES, PICTURE, (1,) * 256 + (4,) * 24 + (64,) * 20)
        self.assertEqual(len(full), 1300)
        self.assertFalse(self.soon(takes.is_ready, SIZES, PAGES, PICTURE))
        self.assertEqual(self.soon(takes.bar, SIZES, PAGES, PICTURE), (64,) * 37)

    def test_of_gathering(self):
        self.assertEqual(self.soon(gather.gathered, SIZES, PAGES, PICTURE, 4), ((), CELL + 64 * 32))
        _, blocks = self.soon(gather.spread, SIZES)
        worst = tuple((HANDLE + handle, size, CELL + place) for handle, size, place in blocks)
        self.assertEqual(len(worst), 512)
        self.assertEqual(len(self.soon(gather.chosen, SIZES, PAGES, worst, 4)), 64)
        self.assertEqual(self.soon(gather.gather_least, SIZES, PAGES, worst), gather.gather_most(SIZES, 4))
        told, place = self.soon(gather.gathered, SIZES, PAGES, worst, 4)
        self.assertEqual((moves.cost(SIZES, PAGES, worst, told), place), (gather.gather_most(SIZES, 4), CELL))

    def test_of_worst_pictures(self):
        for sizes in ((1, 16), (1, 2, 4, 8, 16), (1, 64), (1, 2, 64), (1, 2, 4, 8, 64)):
            pages, picture = self.soon(gather.spread, sizes)
            self.assertEqual(self.soon(gather.gather_least, sizes, pages, picture), gather.gather_most(sizes, len(sizes) - 1))
            self.assertEqual(len(self.soon(gather.chosen, sizes, pages, picture, len(sizes) - 1)), sizes[-1])
            self.assertEqual(self.soon(gather.gathered, sizes, pages, picture, len(sizes) - 1)[1], 0)


if __name__ == "__main__":
    unittest.main()
