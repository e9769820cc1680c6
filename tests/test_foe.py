"""Promises [36] to [39]: where the foe plays, what it asks, and whom it beats."""

import random
import unittest

from tests.stories import Listing
from tests.test_sizes import WRONG_PAGES, WRONG_SIZES
from tests.values import ANY, NO_NUMBERS, NO_SEQUENCES, caught, same
from whatmovesbuy.errors import BadPages, BadPicture, BadSizes, NoRoom, Refused
from whatmovesbuy.foe import arena, beaten, foe_many, foe_request
from whatmovesbuy.judges import Retold, costs, follow, measures
from whatmovesbuy.keeper import Keeper
from whatmovesbuy.pictures import held_cells
from whatmovesbuy.plain import Plain, Wild

WORLDS = (
    ((1, 2), (0, 1)), ((1, 3), (2, 5, 9)), ((2, 6), (0, 10 ** 31)), ((1, 2, 4), (0, 3)), ((1, 2, 6), (4,)),
    ((1, 2, 4, 8), (1, 2, 3)), ((1, 2, 4, 8), (5,)), ((3, 6, 12), (10 ** 31,)), ((1, 4, 16), (0, 1)),
    ((1, 2, 4, 8, 16), (0, 7, 8)), ((1, 64), (3, 4)),
)
NO_ARENAS = (((1,), (0, 1)), ((1,), (0,)), ((64,), ()), ((1, 2), (0,)), ((3, 6), (10 ** 31,)), ((1, 2), ()),
             ((1, 2, 4), ()), ((1, 2, 4, 8, 16), ()), ((7,), tuple(range(64))))


def units_of(sizes, pages):
    """(small size, great size, places of the great units) where the foe plays."""
    if len(pages) > 1:
        return sizes[-2], sizes[-1], [page * sizes[-1] for page in pages]
    return sizes[-3], sizes[-2], list(range(pages[0] * sizes[-1], (pages[0] + 1) * sizes[-1], sizes[-2]))


def played(store):
    """What beaten tells of a store, played by the tests: (all requests, at its first refusal what it tells)."""
    small, great, places = units_of(tuple(store.sizes), tuple(store.pages))
    asked = []
    fit = great // small
    plan = ["take"] * (len(places) * fit) + [places[0]] + [places[1]] * (fit - 1)
    for turn, deed in enumerate(plan + ["last"]):
        if deed in ("take", "last"):
            size = small if deed == "take" else great
            asked.append(("take", size))
            try:
                store.take(size)
            except NoRoom:
                return asked, ("refused", turn, size, tuple(tuple(block) for block in store.picture()))
        else:
            begun = sorted((place, handle) for handle, _, place in store.picture() if deed <= place < deed + great)
            asked.append(("give", begun[0][1]))
            store.give(begun[0][1])
    return asked, None


class Arena(unittest.TestCase):
    def test_told(self):
        self.assertTrue(same(arena((1, 2), (0, 1)), (1, 2, (0, 2))))
        self.assertTrue(same(arena([1, 2, 6], [4]), (1, 2, (24, 26, 28))))
        self.assertTrue(same(arena((3, 6, 12), (10 ** 31,)), (3, 6, (12 * 10 ** 31, 12 * 10 ** 31 + 6))))
        self.assertTrue(same(arena(pages=[0, 1, 7], sizes=[1, 2, 4, 8]), (4, 8, (0, 8, 56))))
        for sizes, pages in WORLDS:
            small, great, places = units_of(sizes, pages)
            self.assertTrue(same(arena(sizes, pages), (small, great, tuple(places))))

    def test_how_many(self):
        told = {((1, 2), (0, 1)): 7, ((1, 3), (2, 5, 9)): 13, ((1, 2, 6), (4,)): 9, ((1, 2, 4), (0, 3)): 7,
                ((1, 64), tuple(range(64))): 64 * 64 + 64 + 1, ((1, 2, 4, 8), (5,)): 7, ((3, 6, 12), (0,)): 7}
        for (sizes, pages), many in told.items():
            self.assertTrue(same(foe_many(sizes, pages), many))
            self.assertEqual(foe_many(pages=list(pages), sizes=list(sizes)), many)

    def test_none(self):
        for sizes, pages in NO_ARENAS:
            for value in (sizes, list(sizes)):
                self.assertIs(caught(Refused, arena, value, pages).value, value)
                self.assertIs(caught(Refused, foe_many, value, pages).value, value)
                self.assertIs(caught(Refused, foe_request, value, pages, 0, ()).value, value)
                self.assertIs(caught(Refused, foe_request, value, pages, None, None).value, value)

    def test_wrong_sizes_and_pages(self):
        for call, rest in ((arena, ()), (foe_many, ()), (foe_request, (None, None))):
            for value, at in WRONG_SIZES + tuple((value, -1) for value in NO_SEQUENCES):
                self.assertEqual(caught(BadSizes, call, value, None, *rest).at, at)
            for value, at in WRONG_PAGES + tuple((value, -1) for value in NO_SEQUENCES):
                self.assertEqual(caught(BadPages, call, (1,), value, *rest).at, at)


class Requests(unittest.TestCase):
    def test_turn_by_turn(self):
        for sizes, pages in WORLDS:
            asked, _ = played(Keeper(sizes, pages))
            keeper, story = Keeper(sizes, pages), []
            for turn in range(foe_many(sizes, pages)):
                request = foe_request(sizes, pages, turn, keeper.picture())
                self.assertTrue(same(request, foe_request(list(sizes), list(pages), turn, list(keeper.picture()))))
                story.extend(follow(keeper, (request,)))
            self.assertTrue(same([request for request, _ in story], asked))
            self.assertEqual(len(asked), foe_many(sizes, pages))

    def test_by_the_picture(self):
        sizes, pages = (1, 3), (2, 4)
        picture = ((0, 1, 8), (1, 1, 7), (4, 1, 13), (5, 1, 12), (9, 1, 14))
        self.assertEqual([foe_request(sizes, pages, turn, picture) for turn in range(10)],
                         [("take", 1)] * 6 + [("give", 1), ("give", 5), ("give", 5), ("take", 3)])
        # the picture counts nothing where it takes
        for turn in (0, 5, 9):
            self.assertEqual(foe_request(sizes, pages, turn, ()), foe_request(sizes, pages, turn, picture))
        self.assertEqual(foe_request(picture=[[3, 3, 6]], turn=6, pages=[2, 4], sizes=[1, 3]), ("give", 3))

    def test_of_one_page(self):
        sizes, pages = (1, 2, 6), (3,)
        picture = ((0, 1, 23), (1, 1, 20), (2, 1, 19))
        self.assertEqual([foe_request(sizes, pages, turn, picture) for turn in range(5)], [("take", 1)] * 5)
        self.assertEqual(foe_request(sizes, pages, 6, picture), ("give", 2))
        self.assertEqual(foe_request(sizes, pages, 7, picture), ("give", 1))
        self.assertEqual(foe_request(sizes, pages, 8, picture), ("take", 2))
        # a block that is greater than the unit begins in it
        self.assertEqual(foe_request(sizes, pages, 6, ((7, 6, 18),)), ("give", 7))
        self.assertEqual(caught(Refused, foe_request, sizes, pages, 7, ((7, 6, 18),)).value, ((7, 6, 18),))

    def test_no_block_begins_there(self):
        sizes, pages = (1, 3), (2, 4)
        for turn, picture in ((6, ((0, 1, 12),)), (7, ((0, 1, 6),)), (8, [(0, 3, 6)]), (6, ()), (7, [])):
            self.assertIs(caught(Refused, foe_request, sizes, pages, turn, picture).value, picture)

    def test_turns_that_are_none(self):
        for sizes, pages in WORLDS:
            many = foe_many(sizes, pages)
            for value in NO_NUMBERS + (many, many + 1, 10 ** 31, "0"):
                self.assertIs(caught(Refused, foe_request, sizes, pages, value, None).value, value)
                self.assertIs(caught(Refused, foe_request, sizes, pages, value, ()).value, value)
            self.assertEqual(foe_request(sizes, pages, many - 1, ()), ("take", units_of(sizes, pages)[1]))
        for value in ANY:
            if isinstance(value, bool) or value not in (0, 1):
                self.assertIs(caught(Refused, foe_request, (1, 2), (0, 1), value, None).value, value)

    def test_then_the_picture(self):
        for turn in range(7):
            for value in NO_SEQUENCES:
                self.assertEqual(caught(BadPicture, foe_request, (1, 2), (0, 1), turn, value).at, -1)
            for value, at in (((None,), 0), (((0, 1, 0), (1, 1, 0)), 1), (((0, 1, 4),), 0), (((0, 4, 0),), 0)):
                self.assertEqual(caught(BadPicture, foe_request, (1, 2), (0, 1), turn, value).at, at)


class Beaten(unittest.TestCase):
    def test_stores_without_moves(self):
        chance = random.Random(1)
        for sizes, pages in WORLDS:
            small, great, places = units_of(sizes, pages)
            for at in range(15):
                choices = [chance.randrange(30) for _ in range(at * 5)]
                told = beaten(Plain(sizes, pages, choices))
                self.assertTrue(same(told, played(Plain(sizes, pages, choices))[1]))
                self.assertEqual(told[:3], ("refused", foe_many(sizes, pages) - 1, great))
                # there are cells enough
                self.assertEqual(held_cells(sizes, pages, told[3]), (len(places) - 1) * great)
                self.assertEqual(told, beaten(Listing(Plain(sizes, pages, choices))))

    def test_stores_that_move_less(self):
        chance = random.Random(2)
        for sizes, pages in WORLDS:
            small, great, _ = units_of(sizes, pages)
            for cells in sorted({0, small - 1, small // 2}):
                for _ in range(6):
                    choices = [chance.randrange(12) for _ in range(100)]
                    told = beaten(Wild(sizes, pages, cells, choices))
                    self.assertEqual(told[:3], ("refused", foe_many(sizes, pages) - 1, great))
                    self.assertEqual(told, played(Wild(sizes, pages, cells, choices))[1])

    def test_stores_that_move_as_they_like(self):
        chance = random.Random(3)
        seen = set()
        for sizes, pages in WORLDS[:4] + WORLDS[4:6]:
            for _ in range(30):
                choices = [chance.randrange(12) for _ in range(60)]
                told = beaten(Wild(sizes, pages, sizes[-1], choices))
                self.assertEqual(told, played(Wild(sizes, pages, sizes[-1], choices))[1])
                seen.add(told is None)
        self.assertEqual(seen, {False, True})

    def test_keepers(self):
        for sizes, pages in WORLDS:
            self.assertIsNone(beaten(Keeper(sizes, pages)))
            self.assertIsNone(beaten(store=Keeper(sizes, pages)))
            keeper = Keeper(sizes, pages)
            beaten(keeper)
            units = units_of(sizes, pages)
            self.assertEqual(held_cells(sizes, pages, keeper.picture()), len(units[2]) * units[1])
            # what it was asked is all taken, and never more moved than the small size
            requests, _ = played(Keeper(sizes, pages))
            paid = costs(sizes, pages, follow(Keeper(sizes, pages), requests))
            self.assertLessEqual(max(paid), keeper.cells)

    def test_the_first_refusal(self):
        for sizes, pages in WORLDS[:6]:
            small, great, _ = units_of(sizes, pages)
            for whim in (0, 1, 2):
                told = beaten(Listing(Keeper(sizes, pages), (whim,)))
                self.assertTrue(same(told, played(Listing(Keeper(sizes, pages), (whim,)))[1]))
                self.assertEqual(told[:3], ("refused", whim, small))
                self.assertEqual(len(told[3]), whim)
            last = foe_many(sizes, pages) - 1
            told = beaten(Listing(Keeper(sizes, pages), (last,)))
            self.assertEqual(told[:3], ("refused", last, great))

    def test_a_store_that_is_full_ahead(self):
        keeper = Keeper((1, 2), (0, 1))
        keeper.take(2)
        self.assertEqual(beaten(keeper), ("refused", 2, 1, ((0, 2, 0), (1, 1, 2), (2, 1, 3))))

    def test_a_unit_in_which_no_block_begins(self):
        # a story of a store that puts two blocks aside, to be told again
        sizes, pages = (1, 2), (0, 1)
        keeper = Keeper(sizes, pages)
        requests, _ = played(keeper)
        story = follow(Keeper(sizes, pages), requests)
        self.assertIsNone(beaten(Retold(sizes, pages, story)))
        empty = Hider(Plain(sizes, pages))
        told = caught(Refused, beaten, empty).value
        self.assertEqual(told, ((1, 1, 2),))

    def test_where_there_is_no_foe(self):
        for sizes, pages in NO_ARENAS:
            for store in (Plain(sizes, pages), Keeper(sizes, pages)):
                self.assertIs(caught(Refused, beaten, store).value, store.sizes)
                self.assertEqual(store.picture(), ())

    def test_measures_of_its_requests(self):
        for sizes, pages in WORLDS:
            small, great, places = units_of(sizes, pages)
            requests, told = played(Plain(sizes, pages))
            rows = measures(sizes, pages, follow(Plain(sizes, pages), requests))
            self.assertEqual(max(held for _, held in rows), len(places) * great)
            self.assertEqual(rows[-1][1] + great, len(places) * great)
            self.assertIsNotNone(told)


class Hider:
    """A store of the tests' own that shows just one of its blocks, in the second page."""

    def __init__(self, store):
        self.sizes, self.pages, self.store = store.sizes, store.pages, store

    def picture(self):
        """One block."""
        return ((1, 1, 2),)

    def take(self, size):
        """The store's."""
        return self.store.take(size)

    def give(self, handle):
        """The store's."""
        return self.store.give(handle)


if __name__ == "__main__":
    unittest.main()
