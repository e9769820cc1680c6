"""Promises [23] to [26]: one step, serving, what is due, and giving back from a smooth picture."""

import random
import unittest

from tests.models import behind, loosest_of, serve, step_at
from tests.values import ANY, NO_NUMBERS, caught, same
from tests.worlds import GREAT, SMALL, all_worlds, free_set, loose_row, pictures_of, some_pictures, some_worlds, torn_row
from whatmovesbuy.errors import Refused
from whatmovesbuy.serving import due, loosest, served, settled, step, steps

SIZES, PAGES = (1, 2, 4), (0, 1, 2)
PICTURE = ((0, 1, 0), (1, 2, 2), (2, 1, 4), (3, 2, 6), (4, 2, 8))


def rough_worlds(step_by=1, many=30):
    """Pictures that are loose somewhere."""
    return [world for world in some_worlds(step_by, many) if loose_row(*world)]


def smooth_worlds():
    """Smooth pictures with blocks: of small pages those there are, of greater ones what comes of serving."""
    for sizes, pages in SMALL:
        for picture in pictures_of(sizes, pages):
            if picture and not loose_row(sizes, pages, picture):
                yield sizes, pages, picture
    for sizes, pages in GREAT:
        for picture in some_pictures(sizes, pages, 25, seed=3):
            yield sizes, pages, settled(sizes, pages, picture)[1]


def products(sizes, pages, picture):
    """By level, over the torn units above it, how many children are free times how many are not, added up."""
    found = []
    for level in range(len(sizes) - 1):
        ratio = sizes[level + 1] // sizes[level]
        found.append(sum(many * (ratio - many) for _, many in torn_row(sizes, pages, picture, level)))
    return found


class OneStep(unittest.TestCase):
    def test_counted_by_cells(self):
        tried = 0
        for sizes, pages, picture in all_worlds(40):
            for level in range(len(sizes) - 1):
                told = step_at(sizes, pages, picture, level)
                if told is None:
                    self.assertIs(caught(Refused, step, sizes, pages, picture, level).value, level)
                    continue
                self.assertTrue(same(step(sizes, pages, picture, level), told))
                self.assertGreater(len(told), 0)
                self.assertLessEqual(behind(sizes, pages, picture, told)[1], sizes[level])
                tried += 1
        self.assertGreater(tried, 500)

    def test_who_gives_and_who_takes(self):
        sizes, pages = (1, 4), (1, 2, 5, 7)
        # free children: 2, 1, 2, 1; of several the one of least place
        rows = ((4, 5), (8, 9, 10), (21, 23), (28, 30, 31))
        fill = tuple((at, 1, place) for at, place in enumerate(sum(rows, ())))
        self.assertEqual(step(sizes, pages, fill, 0), ((0, 11),))
        # all alike: the first gives, the second takes
        fill = ((3, 1, 23), (4, 1, 11), (5, 1, 29), (9, 1, 6))
        self.assertEqual(step(sizes, pages, fill, 0), ((9, 8),))
        # the one that gives isn't the one that takes, though it has fewest, too
        fill = tuple((at, 1, place) for at, place in enumerate((8, 9, 11, 20, 21, 22)))
        self.assertEqual(step(sizes, pages, fill, 0), ((0, 23),))
        # the greatest place gives, the least one takes
        fill = tuple((at, 1, place) for at, place in enumerate((4, 6, 7, 9, 10, 30)))
        self.assertEqual(step(sizes, pages, fill, 0), ((5, 5),))

    def test_a_child_of_several_blocks(self):
        sizes, pages = (1, 2, 8), (0, 3)
        fill = ((0, 2, 0), (1, 2, 2), (2, 1, 7), (5, 1, 28), (6, 1, 29), (8, 2, 26))
        self.assertEqual(step(sizes, pages, fill, 1), ((8, 4),))
        fill = ((1, 2, 2), (2, 1, 7), (3, 2, 0), (5, 1, 29), (6, 1, 28))
        self.assertEqual(step(sizes, pages, fill, 1), ((6, 4), (5, 5)))
        # one that isn't full goes with its gap
        self.assertEqual(step(sizes, pages, ((1, 2, 2), (2, 1, 7), (3, 2, 0), (5, 1, 29)), 1), ((5, 5),))
        self.assertEqual(step(level=1, picture=[[1, 2, 2], [3, 2, 0], [5, 1, 29]], pages=[0, 3], sizes=[1, 2, 8]),
                         ((5, 5),))

    def test_no_level(self):
        for value in NO_NUMBERS + (2, 3, 10 ** 31, "0", (0,)):
            self.assertIs(caught(Refused, step, SIZES, PAGES, PICTURE, value).value, value)
        self.assertIs(caught(Refused, step, (2,), (0, 1), ((0, 2, 0),), 0).value, 0)
        # two levels: only one unit is torn above 1, none behind settling
        one = ((0, 1, 0), (1, 1, 2), (2, 4, 4))
        self.assertEqual(step(SIZES, PAGES, one, 0), ((0, 3),))
        self.assertEqual(caught(Refused, step, SIZES, PAGES, one, 1).value, 1)
        self.assertEqual(caught(Refused, step, SIZES, PAGES, (), 0).value, 0)
        self.assertEqual(caught(Refused, step, SIZES, PAGES, ((7, 4, 0),), 1).value, 1)
        self.assertEqual(caught(Refused, step, SIZES, (), (), 0).value, 0)


class Serving(unittest.TestCase):
    def test_counted_by_cells(self):
        for sizes, pages, picture in rough_worlds():
            made, moves, after = serve(sizes, pages, picture, None)
            self.assertEqual(loosest(sizes, pages, picture), made[0][0])
            self.assertTrue(same(settled(sizes, pages, picture), (moves, after)))
            self.assertTrue(same(steps(sizes, pages, picture), made))
            self.assertTrue(same(due(sizes, pages, picture), sum(cost for _, cost in made)))

    def test_bounds(self):
        for sizes, pages, picture in rough_worlds(7):
            all_due = due(sizes, pages, picture)
            for cells in sorted({0, 1, all_due // 2, all_due - 1}):
                told = serve(sizes, pages, picture, cells)
                self.assertTrue(same(served(sizes, pages, picture, cells), told[1:]))
                self.assertLessEqual(sum(cost for _, cost in told[0]), cells)
            self.assertEqual(served(sizes, pages, picture, 0), ((), picture))
            self.assertNotEqual(served(sizes, pages, picture, all_due - 1), settled(sizes, pages, picture))
            for cells in (all_due, all_due + 1, 10 ** 31):
                self.assertEqual(served(sizes, pages, picture, cells), settled(sizes, pages, picture))

    def test_in_two_goes_as_in_one(self):
        for sizes, pages, picture in rough_worlds(9):
            paid = 0
            for _, cost in steps(sizes, pages, picture):
                paid += cost
                first, between = served(sizes, pages, picture, paid)
                second, after = served(sizes, pages, between, due(sizes, pages, between))
                self.assertEqual(due(sizes, pages, picture) - due(sizes, pages, between), paid)
                self.assertEqual((first + second, after), settled(sizes, pages, picture))

    def test_it_stops_though_a_lesser_step_is_due(self):
        # a step of two pages costs 2, one of the units of 2 would cost 1
        picture = ((0, 2, 0), (1, 2, 4), (2, 1, 8), (3, 1, 10))
        self.assertEqual(loosest(SIZES, PAGES, picture), 1)
        self.assertEqual(serve(SIZES, PAGES, picture, None)[0], ((1, 2), (0, 1)))
        self.assertEqual(served(SIZES, PAGES, picture, 1), ((), picture))
        self.assertEqual(served(SIZES, PAGES, picture, 2)[0], ((0, 6),))
        self.assertEqual(served(SIZES, PAGES, picture, 3)[0], ((0, 6), (2, 11)))
        # a step that costs less than its size is paid
        cheap = ((0, 1, 1), (1, 2, 4))
        self.assertEqual(served(SIZES, PAGES, cheap, 1), (((0, 7),), ((0, 1, 7), (1, 2, 4))))

    def test_cells_that_are_none(self):
        for value in NO_NUMBERS:
            self.assertIs(caught(Refused, served, SIZES, PAGES, PICTURE, value).value, value)
            self.assertIs(caught(Refused, served, SIZES, PAGES, (), value).value, value)
        told = ((((0, 5),), ((0, 1, 5), (1, 2, 2), (2, 1, 4), (3, 2, 6), (4, 2, 8))))
        self.assertEqual(served(cells=2, picture=[list(block) for block in PICTURE], pages=list(PAGES), sizes=[1, 2, 4]),
                         told)

    def test_smooth_pictures(self):
        tried = 0
        for sizes, pages, picture in some_worlds(2):
            if loose_row(sizes, pages, picture):
                continue
            tried += 1
            self.assertIsNone(loosest(sizes, pages, picture))
            self.assertEqual(settled(sizes, pages, picture), ((), picture))
            self.assertEqual(served(sizes, pages, picture, 10), ((), picture))
            self.assertEqual((steps(sizes, pages, picture), due(sizes, pages, picture)), ((), 0))
        self.assertGreater(tried, 100)


class WhatIsDue(unittest.TestCase):
    def test_behind_it(self):
        for sizes, pages, picture in rough_worlds(3):
            moves, after = settled(sizes, pages, picture)
            self.assertEqual(behind(sizes, pages, picture, moves), (after, due(sizes, pages, picture)))
            self.assertEqual(loose_row(sizes, pages, after), [])
            self.assertEqual([block[:2] for block in after], [tuple(block[:2]) for block in picture])
            self.assertEqual(len(free_set(sizes, pages, after)), len(free_set(sizes, pages, picture)))

    def test_each_step(self):
        for sizes, pages, picture in rough_worlds(11):
            now = picture
            for level, cost in steps(sizes, pages, picture):
                self.assertEqual(level, loosest(sizes, pages, now))
                self.assertEqual(level, loosest_of(sizes, pages, now))
                moves = step(sizes, pages, now, level)
                lower = [torn_row(sizes, pages, now, below) for below in range(level)]
                ahead = products(sizes, pages, now)
                now, paid = behind(sizes, pages, now, moves)
                self.assertEqual(cost, paid)
                self.assertLess(products(sizes, pages, now), ahead)
                # a step moves whole children: at lower levels as many units are torn, in as many ways
                for below in range(level):
                    self.assertEqual(sorted(many for _, many in lower[below]),
                                     sorted(many for _, many in torn_row(sizes, pages, now, below)))
            self.assertIsNone(loosest_of(sizes, pages, now))


class GivingBack(unittest.TestCase):
    def test_each_block_of_smooth_pictures(self):
        tried = {}
        for sizes, pages, picture in smooth_worlds():
            for handle, size, _ in picture:
                rest = tuple(block for block in picture if block[0] != handle)
                made = steps(sizes, pages, rest)
                levels = [level for level, _ in made]
                self.assertEqual(levels, sorted(set(levels)))
                for level, cost in made:
                    self.assertGreaterEqual(level, sizes.index(size))
                    self.assertLessEqual(cost, sizes[level])
                self.assertLessEqual(due(sizes, pages, rest), sum(sizes[sizes.index(size):-1]))
                tried[len(made)] = tried.get(len(made), 0) + 1
        self.assertGreater(min(tried.get(many, 0) for many in range(3)), 3)

    def test_as_much_as_can_be_due(self):
        sizes, pages = (1, 2, 4, 8), (0, 1, 2, 3)
        chance = random.Random(2)
        most = 0
        for picture in some_pictures(sizes, pages, 300, seed=8):
            smooth = settled(sizes, pages, picture)[1]
            for handle, _, _ in chance.sample(smooth, min(3, len(smooth))):
                most = max(most, due(sizes, pages, tuple(block for block in smooth if block[0] != handle)))
        self.assertGreater(most, 4)
        self.assertLessEqual(most, 7)


class AnyValue(unittest.TestCase):
    def test_levels_and_cells(self):
        for value in ANY:
            if value not in (0, 1) or isinstance(value, bool):
                self.assertIs(caught(Refused, step, SIZES, PAGES, PICTURE, value).value, value)
            if not isinstance(value, int) or isinstance(value, bool) or value < 0:
                self.assertIs(caught(Refused, served, SIZES, PAGES, PICTURE, value).value, value)


if __name__ == "__main__":
    unittest.main()
