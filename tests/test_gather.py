"""Promises [52] to [55]: gathering, what nothing can do without, and the worst picture."""

import random
import unittest
from fractions import Fraction

from tests.models import Refusal, behind, chosen_row, gather_at
from tests.test_sizes import WRONG_PAGES, WRONG_SIZES
from tests.values import ANY, NO_NUMBERS, NO_SEQUENCES, caught, same
from tests.worlds import all_worlds, free_row, free_set, hole_row, named, page_cells, pictures_of, some_pictures
from whatmovesbuy.eager import Eager, eager_need, eager_plan
from whatmovesbuy.errors import BadPages, BadPicture, BadSizes, NoRoom, Refused
from whatmovesbuy.gather import chosen, gather_least, gather_most, gathered, spread
from whatmovesbuy.moves import cost, moved
from whatmovesbuy.pictures import check_picture, is_free, without
from whatmovesbuy.plain import Plain
from whatmovesbuy.takes import is_ready, place_for

SIZES = ((1,), (5,), (64,), (1, 2), (1, 64), (3, 12), (1, 2, 4), (1, 2, 6), (2, 6, 12), (1, 3, 6, 12), (1, 2, 4, 8, 16),
         (1, 4, 16), (1, 2, 10, 20, 60))
# sizes and pages of which pictures with just one page's cells free are made
NARROW = (((1, 2), (0, 1, 4)), ((1, 4), (0, 2)), ((1, 2, 4), (1, 2, 3)), ((1, 2, 6), (0, 1, 10 ** 31)),
          ((1, 3, 6), (0, 1, 5)), ((1, 2, 4, 8), (2, 3, 4)), ((2, 4, 12, 24), (0, 3)), ((1, 2, 4, 8, 16), (0, 1)))


def narrow_pictures(sizes, pages, many, seed=1):
    """Pictures with just one page's cells free: of some pictures blocks are taken out, or put in, until it is so."""
    chance = random.Random(seed)
    found = []
    for picture in some_pictures(sizes, pages, many, seed):
        blocks = [block[1:] for block in picture]
        chance.shuffle(blocks)
        while True:
            here = tuple((at, size, place) for at, (size, place) in enumerate(blocks))
            free = len(free_set(sizes, pages, here))
            if free == sizes[-1]:
                break
            if free < sizes[-1]:
                size, place = blocks.pop()
                # what is missing stays, in the least blocks
                rest = min(size, size + free - sizes[-1])
                blocks += [(sizes[0], start) for start in range(place, place + rest, sizes[0])]
            else:
                fits = [size for size in sizes if size <= free - sizes[-1] and free_row(sizes, pages, here, sizes.index(size))]
                size = chance.choice(fits)
                blocks.append((size, chance.choice(free_row(sizes, pages, here, sizes.index(size)))))
        found.append(named(chance, blocks))
    return found


def least_by_counting(sizes, picture):
    """What gather_least tells, level by level as the document tells it."""
    total = 0
    for k in range(len(sizes) - 1):
        span = sizes[k + 1]
        small = [block for block in picture if block[1] <= sizes[k]]
        places = {place - place % span for _, _, place in small}
        just = sorted(sum(size for _, size, place in small if size == sizes[k] and place - place % span == unit)
                      for unit in places)
        many = Fraction(sum(size for _, size, _ in small), span)
        assert many.denominator == 1
        total += sum(just[:len(places) - int(many)])
    return total


class Most(unittest.TestCase):
    def test_told(self):
        for sizes, row in (((5,), (0,)), ((1, 2), (0, 1)), ((1, 64), (0, 63)), ((1, 2, 4), (0, 1, 4)),
                           ((1, 2, 6), (0, 1, 7)), ((3, 6, 12, 24), (0, 3, 12, 36)), ((1, 2, 4, 8, 16), (0, 1, 4, 12, 32))):
            for level, told in enumerate(row):
                self.assertTrue(same(gather_most(sizes, level), told))
                self.assertTrue(same(gather_most(level=level, sizes=list(sizes)), told))

    def test_size_times_a_sum(self):
        for sizes in SIZES:
            for level, size in enumerate(sizes):
                told = size * sum(1 - Fraction(sizes[j], sizes[j + 1]) for j in range(level))
                self.assertEqual(gather_most(sizes, level), told)

    def test_faults(self):
        for value, at in WRONG_SIZES + tuple((value, -1) for value in NO_SEQUENCES):
            self.assertEqual(caught(BadSizes, gather_most, value, None).at, at)
        for value in NO_NUMBERS + (3, 4, 10 ** 31, "1"):
            self.assertIs(caught(Refused, gather_most, (1, 2, 4), value).value, value)


class Chosen(unittest.TestCase):
    def test_counted(self):
        told_some, told_none = 0, 0
        for sizes, pages, picture in all_worlds(40):
            for level in range(len(sizes)):
                row, many = chosen_row(sizes, pages, picture, level)
                if many < sizes[level]:
                    self.assertEqual(caught(NoRoom, chosen, sizes, pages, picture, level).size, sizes[level])
                    told_none += 1
                    continue
                told = chosen(sizes, pages, picture, level)
                self.assertTrue(same(told, tuple(row)))
                self.assertEqual(sum(sizes[lower] for lower, _ in told), sizes[level])
                self.assertLessEqual(set(told), {hole for hole in hole_row(sizes, pages, picture) if hole[0] < level})
                told_some += 1
        self.assertGreater(min(told_some, told_none), 100)

    def test_order(self):
        sizes, pages = (1, 2, 6), (0, 1, 2)
        picture = ((0, 1, 0), (1, 1, 6), (2, 2, 8), (3, 2, 12), (4, 2, 16), (5, 1, 4))
        holes = ((0, 1), (0, 5), (0, 7), (1, 2), (1, 10), (1, 14))
        self.assertEqual(tuple(hole_row(sizes, pages, picture)), holes)
        self.assertEqual(chosen(sizes, pages, picture, 2), ((1, 2), (1, 10), (1, 14)))
        self.assertEqual(chosen(sizes, pages, picture, 1), ((0, 1), (0, 5)))
        fewer = picture + ((6, 2, 14),)
        self.assertEqual(chosen(sizes, pages, fewer, 2), ((1, 2), (1, 10), (0, 1), (0, 5)))
        self.assertEqual(chosen(level=2, picture=[list(block) for block in fewer], pages=[0, 1, 2], sizes=[1, 2, 6]),
                         ((1, 2), (1, 10), (0, 1), (0, 5)))

    def test_too_few_cells(self):
        # holes of the level itself, or greater, are none below it
        for picture in ((), ((0, 2, 4),)):
            for level, size in enumerate((1, 2, 4)):
                if picture and level == 2:
                    continue
                self.assertEqual(caught(NoRoom, chosen, (1, 2, 4), (0, 1), picture, level).size, size)
        self.assertEqual(chosen((1, 2, 4), (0, 1), ((0, 2, 0), (1, 2, 6)), 2), ((1, 2), (1, 4)))
        full = ((0, 4, 0), (1, 4, 4))
        for level, size in enumerate((1, 2, 4)):
            self.assertEqual(caught(NoRoom, chosen, (1, 2, 4), (0, 1), full, level).size, size)
            self.assertEqual(caught(NoRoom, gathered, (1, 2, 4), (0, 1), full, level).size, size)
            self.assertEqual(caught(NoRoom, chosen, (1, 2, 4), (), (), level).size, size)
            self.assertEqual(caught(NoRoom, gathered, (1, 2, 4), (), (), level).size, size)
        self.assertEqual(caught(NoRoom, chosen, (7,), (0, 1), (), 0).size, 7)

    def test_which_fault_is_told(self):
        for call in (chosen, gathered):
            for value, at in WRONG_SIZES + tuple((value, -1) for value in NO_SEQUENCES):
                self.assertEqual(caught(BadSizes, call, value, None, None, None).at, at)
            for value, at in WRONG_PAGES + tuple((value, -1) for value in NO_SEQUENCES):
                self.assertEqual(caught(BadPages, call, (1, 2), value, None, None).at, at)
            for value in NO_SEQUENCES:
                self.assertEqual(caught(BadPicture, call, (1, 2), (0, 1), value, None).at, -1)
            for value in ANY:
                self.assertEqual(caught(BadPicture, call, (1, 2), (0, 1), ((0, 1, 0), value), None).at, 1)
            # a level that is none ahead of too few cells, and where there are enough
            for picture in ((), ((0, 2, 0), (1, 2, 2)), ((0, 1, 0), (1, 1, 2))):
                for value in NO_NUMBERS + (2, 3, 10 ** 31, "1"):
                    self.assertIs(caught(Refused, call, (1, 2), (0, 1), picture, value).value, value)


class Gathered(unittest.TestCase):
    def test_as_the_model(self):
        moved_some, most_steps = 0, 0
        for sizes, pages, picture in all_worlds(60):
            for level, size in enumerate(sizes):
                try:
                    row, place = gather_at(sizes, pages, picture, level)
                except Refusal:
                    self.assertLess(len(free_set(sizes, pages, picture)), size)
                    self.assertEqual(caught(NoRoom, gathered, sizes, pages, picture, level).size, size)
                    continue
                told = gathered(sizes, pages, picture, level)
                self.assertTrue(same(told, (row, place)))
                self.assertLessEqual(cost(sizes, pages, picture, row), gather_most(sizes, level))
                self.assertTrue(is_free(sizes, pages, moved(sizes, pages, picture, row), level, place))
                moved_some += bool(row)
                most_steps = max(most_steps, len(row))
        self.assertGreater(moved_some, 100)
        self.assertGreater(most_steps, 5)

    def test_pictures_with_few_cells_free(self):
        for sizes, pages in NARROW:
            for picture in narrow_pictures(sizes, pages, 40):
                row, place = gathered(sizes, pages, picture, len(sizes) - 1)
                self.assertEqual((row, place), gather_at(sizes, pages, picture, len(sizes) - 1))
                self.assertTrue(is_free(sizes, pages, moved(sizes, pages, picture, row), len(sizes) - 1, place))
                self.assertLessEqual(cost(sizes, pages, picture, row), gather_most(sizes, len(sizes) - 1))

    def test_a_hole_that_is_great_enough(self):
        sizes, pages = (1, 2, 4, 8), (0, 1, 3)
        picture = ((0, 1, 0), (1, 4, 8), (2, 2, 12))
        self.assertEqual(gathered(sizes, pages, picture, 0), ((), 1))
        self.assertEqual(gathered(sizes, pages, picture, 1), ((), 2))
        self.assertEqual(gathered(sizes, pages, picture, 2), ((), 4))
        self.assertEqual(gathered(sizes, pages, picture, 3), ((), 24))
        self.assertEqual(gathered(sizes, pages, (), 0), ((), 0))
        self.assertEqual(gathered(sizes, (5,), ((0, 2, 40),), 0), ((), 42))
        for one, two, three in all_worlds(20):
            for level, size in enumerate(one):
                if place_for(one, two, three, size) is not None:
                    self.assertEqual(gathered(one, two, three, level), ((), place_for(one, two, three, size)))

    def test_who_gives_and_who_takes(self):
        sizes, pages = (1, 4), (0, 1, 2)
        # free: one in page 0, two in page 1, one in page 2
        picture = ((0, 1, 0), (1, 1, 1), (2, 1, 3), (3, 1, 5), (4, 1, 7), (5, 1, 8), (6, 1, 9), (7, 1, 11))
        self.assertEqual(gathered(sizes, pages, picture, 1), (((3, 2), (4, 10)), 4))
        # two in page 0 and two in page 2: the first one gives
        picture = ((0, 1, 0), (1, 1, 3), (2, 4, 4), (5, 1, 8), (6, 1, 11))
        self.assertEqual(gathered(sizes, pages, picture, 1), (((0, 9), (1, 10)), 0))
        # one in each of four: the first one gives, to the others in their order
        picture = tuple((at, 1, place) for at, place in enumerate(place for place in range(16) if place % 4 != 1))
        self.assertEqual(gathered(sizes, (0, 1, 2, 3), picture, 1), (((0, 5), (1, 9), (2, 13)), 0))

    def test_free_children_that_are_not_chosen(self):
        # page 2 has most chosen ones, and a free one behind them: it is chosen instead of another one for no move
        picture = tuple((at, 1, place) for at, place in enumerate((0, 2, 3, 4, 6, 7, 11)))
        self.assertEqual(chosen((1, 4), (0, 1, 2), picture, 1), ((0, 1), (0, 5), (0, 8), (0, 9)))
        self.assertEqual(gathered((1, 4), (0, 1, 2), picture, 1), (((6, 5),), 8))

    def test_blocks_of_a_child_keep_their_distance(self):
        sizes, pages = (1, 2, 8, 16), (0, 1)
        picture = ((0, 1, 1), (1, 2, 4), (2, 1, 6), (3, 8, 16), (9, 2, 24), (11, 2, 30), (12, 2, 28))
        free = ((0, 0), (0, 7), (1, 2), (1, 26), (2, 8))
        self.assertEqual(tuple(hole_row(sizes, pages, picture)), free)
        self.assertEqual(caught(NoRoom, gathered, sizes, pages, picture, 3).size, 16)
        picture = picture[:5] + ((11, 1, 30),)
        self.assertEqual(chosen(sizes, pages, picture, 3), ((2, 8), (1, 2), (1, 26), (1, 28), (0, 0), (0, 7)))
        # block 0 is moved twice: within the child at 6 it goes on together with block 2
        self.assertEqual(gathered(sizes, pages, picture, 3), (((0, 7), (1, 26), (2, 28), (0, 29)), 0))

    def test_level_by_level(self):
        sizes, pages = (1, 2, 4, 8), (0, 1)
        picture = ((0, 4, 0), (1, 1, 4), (2, 1, 6), (3, 4, 8), (4, 2, 12))
        self.assertEqual(chosen(sizes, pages, picture, 2), ((1, 14), (0, 5), (0, 7)))
        self.assertEqual(gathered(sizes, pages, picture, 2), (((1, 7), (2, 14), (1, 15)), 4))

    def test_units_that_are_filled_from_the_beginning(self):
        # the hole at 2 and what comes free at 0 fill a page before anything of their level is moved
        sizes, pages = (1, 2, 4), (0, 1)
        picture = ((0, 1, 0), (1, 1, 4), (2, 2, 6))
        self.assertEqual(gathered(sizes, pages, picture, 2), (((0, 5),), 0))
        # so does a unit of 4, besides two others that are brought together
        sizes = (1, 2, 4, 8, 16)
        picture = ((0, 1, 0), (1, 4, 4), (2, 4, 8), (3, 1, 12), (4, 2, 14), (5, 4, 16), (6, 2, 20), (7, 2, 24), (8, 4, 28),
                   (9, 16, 32))
        self.assertEqual(chosen(sizes, (0, 1, 2), picture, 3), ((1, 2), (1, 22), (1, 26), (0, 1), (0, 13)))
        self.assertEqual(gathered(sizes, (0, 1, 2), picture, 3), (((0, 13), (6, 26), (1, 20)), 0))

    def test_two_sizes_are_cheap(self):
        for sizes, pages in NARROW:
            if len(sizes) > 2:
                continue
            for picture in narrow_pictures(sizes, pages, 60):
                row, _ = gathered(sizes, pages, picture, 1)
                self.assertEqual(cost(sizes, pages, picture, row), gather_least(sizes, pages, picture))


class Least(unittest.TestCase):
    def test_counted(self):
        seen = set()
        for sizes, pages in NARROW + (((5,), (0, 1, 3)), ((1, 64), (0, 1))):
            for picture in narrow_pictures(sizes, pages, 60):
                told = gather_least(sizes, pages, picture)
                self.assertTrue(same(told, least_by_counting(sizes, picture)))
                self.assertTrue(same(gather_least(picture=[list(block) for block in picture], pages=list(pages),
                                                  sizes=list(sizes)), told))
                row, _ = gathered(sizes, pages, picture, len(sizes) - 1)
                paid = cost(sizes, pages, picture, row)
                self.assertLessEqual(told, paid)
                seen.add((told > 0, told < paid))
        self.assertEqual(seen, {(False, False), (False, True), (True, False), (True, True)})

    def test_told(self):
        self.assertTrue(same(gather_least((7,), (0, 1), ((0, 7, 7),)), 0))
        self.assertEqual(gather_least((1, 2), (0, 1), ((0, 2, 0),)), 0)
        self.assertEqual(gather_least((1, 2), (0, 1), ((0, 1, 0), (1, 1, 2))), 1)
        self.assertEqual(gather_least((1, 2, 4), (0, 1), ((0, 2, 0), (1, 2, 4))), 2)
        self.assertEqual(gather_least((1, 2, 4), (0, 1), ((0, 2, 0), (1, 1, 4), (2, 1, 5))), 0)
        self.assertEqual(gather_least((1, 2, 4), (0, 1), ((0, 1, 0), (1, 1, 2), (2, 2, 4))), 1)
        self.assertEqual(gather_least((1, 2, 4), (0, 1), ((0, 2, 0), (1, 1, 2), (2, 1, 4))), 1)
        self.assertEqual(gather_least((1, 2, 4), (3,), ()), 0)

    def test_other_pictures(self):
        refused = 0
        for sizes, pages, picture in all_worlds(20):
            if len(free_set(sizes, pages, picture)) != sizes[-1]:
                for value in (picture, list(picture)):
                    self.assertIs(caught(Refused, gather_least, sizes, pages, value).value, value)
                refused += 1
        self.assertGreater(refused, 100)
        self.assertEqual(caught(Refused, gather_least, (1, 2), (), ()).value, ())

    def test_which_fault_is_told(self):
        for value, at in WRONG_SIZES + tuple((value, -1) for value in NO_SEQUENCES):
            self.assertEqual(caught(BadSizes, gather_least, value, None, None).at, at)
            self.assertEqual(caught(BadSizes, spread, value).at, at)
        for value, at in WRONG_PAGES + tuple((value, -1) for value in NO_SEQUENCES):
            self.assertEqual(caught(BadPages, gather_least, (1, 2), value, None).at, at)
        for value in NO_SEQUENCES:
            self.assertEqual(caught(BadPicture, gather_least, (1, 2), (0, 1), value).at, -1)
        for value in ANY:
            self.assertEqual(caught(BadPicture, gather_least, (1, 2), (0, 1), ((0, 1, 0), value)).at, 1)

    def test_whatever_is_moved(self):
        # each picture with a free page that has as many blocks of each size: so many cells stand elsewhere there
        tried = 0
        for sizes, pages in (((1, 2), (0, 1, 2)), ((1, 2, 4), (0, 3)), ((1, 4), (0, 1)), ((1, 3, 6), (0, 1))):
            all_ways = [frozenset(block[1:] for block in picture) for picture in pictures_of(sizes, pages)]
            narrow = [way for way in all_ways if sum(size for size, _ in way) == (len(pages) - 1) * sizes[-1]]
            ends = {}
            for way in narrow:
                picture = named(random.Random(1), sorted(way))
                if free_row(sizes, pages, picture, len(sizes) - 1):
                    ends.setdefault(tuple(sorted(size for size, _ in way)), []).append(way)
            for way in narrow:
                told = gather_least(sizes, pages, named(random.Random(1), sorted(way)))
                paid = [sum(size for size, _ in way - end) for end in ends[tuple(sorted(size for size, _ in way))]]
                self.assertLessEqual(told, min(paid))
                tried += told > 0
        self.assertGreater(tried, 50)

    def test_any_row_of_moves(self):
        # random moves of whatever can be moved, until a page is free
        chance, tried = random.Random(2), 0
        for sizes, pages in (((1, 2), (0, 1)), ((1, 2, 4), (0, 1)), ((1, 3), (0, 1)), ((1, 2, 4), (0, 1, 2))):
            for picture in narrow_pictures(sizes, pages, 12):
                now, paid = picture, 0
                for _ in range(60):
                    if free_row(sizes, pages, now, len(sizes) - 1):
                        self.assertGreaterEqual(paid, gather_least(sizes, pages, picture))
                        tried += paid > 0
                        break
                    can = [(handle, place) for handle, size, _ in now
                           for place in free_row(sizes, pages, now, sizes.index(size))]
                    now, more = behind(sizes, pages, now, (chance.choice(can),))
                    paid += more
        self.assertGreater(tried, 10)

    def test_the_foe_of_eager_stores(self):
        # behind the plan and ("give", 0) just what must be let move at giving back has to stand elsewhere
        chance = random.Random(3)
        for sizes, pages in (((1, 2), (0, 4)), ((1, 4), (0, 1, 9)), ((1, 2, 4), (0, 3, 4)), ((1, 2, 6), (0, 1, 5, 7)),
                             ((1, 3, 6, 12), (1, 2, 5, 6)), ((1, 2, 4, 8, 16), (0, 1, 5, 6, 7)), ((2, 4, 12), (0, 1, 2))):
            eager = Eager(sizes, pages)
            stores = [eager] + [Plain(sizes, pages, [chance.randrange(9) for _ in range(40)]) for _ in range(30)]
            tried = 0
            for store in stores:
                for size in eager_plan(sizes, pages):
                    if not is_ready(sizes, pages, store.picture()):
                        break
                    store.take(size)
                if len(store.picture()) < len(eager_plan(sizes, pages)) or not is_ready(sizes, pages, store.picture()):
                    continue
                ahead = without(sizes, pages, store.picture(), 0)
                self.assertEqual(gather_least(sizes, pages, ahead), eager_need(sizes))
                tried += 1
            self.assertGreater(tried, 0)
            ahead = without(sizes, pages, eager.picture(), 0)
            moves = eager.give(0)
            self.assertEqual(cost(sizes, pages, ahead, moves), gather_least(sizes, pages, ahead))
            self.assertTrue(free_row(sizes, pages, eager.picture(), len(sizes) - 1))


class Spread(unittest.TestCase):
    def test_to_the_cell(self):
        for sizes in SIZES:
            pages, picture = spread(sizes)
            self.assertTrue(same(spread(sizes=list(sizes)), (pages, picture)))
            self.assertTrue(same(pages, tuple(range(sizes[-1] // sizes[0]))))
            self.assertEqual(check_picture(sizes, pages, picture), picture)
            self.assertEqual([block[0] for block in picture], list(range(len(picture))))
            self.assertEqual([block[2] for block in picture], sorted(block[2] for block in picture))
            for page in pages:
                first = page * sizes[-1]
                row = [(size, place - first) for _, size, place in picture if first <= place < first + sizes[-1]]
                told = [sizes[j] for j in range(len(sizes) - 1) for _ in range(sizes[j + 1] // sizes[j] - 1)]
                self.assertEqual([size for size, _ in row], told)
                # one behind another, behind the free unit
                self.assertEqual([place for _, place in row], [sizes[0] + sum(told[:at]) for at in range(len(told))])
            free = free_set(sizes, pages, picture)
            self.assertEqual(free, {cell for cell in page_cells(sizes, pages) if cell % sizes[-1] < sizes[0]})

    def test_told(self):
        self.assertEqual(spread((5,)), ((0,), ()))
        self.assertEqual(spread((1, 2)), ((0, 1), ((0, 1, 1), (1, 1, 3))))
        self.assertEqual(spread((2, 6)), ((0, 1, 2), ((0, 2, 2), (1, 2, 4), (2, 2, 8), (3, 2, 10), (4, 2, 14), (5, 2, 16))))
        self.assertEqual(spread((1, 3, 6))[1][:4], ((0, 1, 1), (1, 1, 2), (2, 3, 3), (3, 1, 7)))

    def test_what_it_takes(self):
        for sizes in SIZES:
            pages, picture = spread(sizes)
            last = len(sizes) - 1
            self.assertEqual(gather_least(sizes, pages, picture), gather_most(sizes, last))
            row, place = gathered(sizes, pages, picture, last)
            self.assertEqual(cost(sizes, pages, picture, row), gather_most(sizes, last))
            self.assertTrue(is_free(sizes, pages, moved(sizes, pages, picture, row), last, place))


if __name__ == "__main__":
    unittest.main()
