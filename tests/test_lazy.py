"""Promises [56] and [57]: a store that moves blocks at taking alone, its bounds, and the foe of those that move less."""

import inspect
import random
import unittest
from math import ceil
from fractions import Fraction

from tests.models import Refusal, behind, gather_at
from tests.rows import some_requests, walk
from tests.stories import Listing
from tests.test_sizes import WRONG_PAGES, WRONG_SIZES
from tests.values import ANY, NO_NUMBERS, NO_SEQUENCES, caught, same
from tests.worlds import all_worlds, free_row, free_set
from whatmovesbuy.errors import BadPages, BadPicture, BadSizes, NoBlock, NoRoom, Refused
from whatmovesbuy.gather import gather_most, gathered
from whatmovesbuy.judges import follow, judged
from whatmovesbuy.keeper import Keeper
from whatmovesbuy.lazy import Lazy, lazy_beaten, lazy_bounds, lazy_many, lazy_request
from whatmovesbuy.moves import cost
from whatmovesbuy.pictures import without
from whatmovesbuy.plain import Plain, Wild

WORLDS = (
    ((3,), (2, 5)), ((1, 2), (0, 4)), ((1, 4), (0, 1, 9)), ((2, 6), (1, 10 ** 31)), ((1, 2, 4), (0, 3, 4)),
    ((1, 2, 6), (0, 1, 5)), ((1, 3, 6, 12), (1, 2, 5, 6)), ((1, 2, 4, 8), (0, 1, 2, 3, 4)), ((2, 4, 12, 24), (3, 4)),
    ((1, 2, 4, 8, 16), (0, 1, 5)), ((1, 2), (5,)), ((1, 2, 6), (7,)), ((1, 2, 4, 8, 16), (2,)), ((5,), (3,)),
)
# where the foe plays
FOES = (
    ((1, 2), (0, 4)), ((1, 3), (0, 1)), ((1, 4), (0, 1, 9)), ((2, 6), (1, 10 ** 31)), ((1, 2, 4), (0, 3, 4)),
    ((1, 2, 6), (0, 1, 5, 7)), ((1, 2, 6), (7,)), ((1, 3, 6, 12), (1, 2)), ((1, 2, 4, 8), (10 ** 31,)),
    ((1, 5), (0, 1, 2, 3, 4, 5)), ((2, 4, 12), (0, 1, 2)), ((1, 2, 4, 8, 16), (0, 1, 5)), ((3, 6, 12), (0,)),
)
NONE_COUNT = (((1,), (0,)), ((5,), (0, 1, 2)), ((1, 2), (3,)), ((2, 64), (10 ** 31,)))


def counting(sizes, pages):
    """The sizes that count, and the places of the units of the greatest of them."""
    if len(pages) == 1 and len(sizes) > 1:
        first = pages[0] * sizes[-1]
        return sizes[:-1], list(range(first, first + sizes[-1], sizes[-2]))
    return sizes, [page * sizes[-1] for page in pages]


def told_bounds(sizes, pages):
    """(least, most), by fractions."""
    here, places = counting(sizes, pages)
    least = here[-1] - here[0] * ceil(Fraction(here[-1], here[0] * len(places)))
    if len(here) <= 2:
        return least, least
    most = here[-1] * sum(1 - Fraction(here[j], here[j + 1]) for j in range(len(here) - 1))
    return least, int(most)


def played(store):
    """What the foe asks of a store, and what it tells of it, played by the tests."""
    sizes, places = counting(tuple(store.sizes), tuple(store.pages))
    share = sizes[-1] // sizes[0]
    asked = []
    for deed in ["take"] * (len(places) * share) + ["give"] * share + ["last"]:
        if deed == "give":
            begun = {place: [] for place in places}
            for handle, _, start in store.picture():
                begun[start - start % sizes[-1]].append((start, handle))
            unit = min(places, key=lambda place: (-len(begun[place]), place))
            asked.append(("give", min(begun[unit])[1]))
            store.give(asked[-1][1])
            continue
        asked.append(("take", sizes[0] if deed == "take" else sizes[-1]))
        try:
            store.take(asked[-1][1])
        except NoRoom:
            picture = tuple(tuple(block) for block in store.picture())
            return asked, ("refused", len(asked) - 1, asked[-1][1], picture)
    return asked, None


class Mover:
    """A store of the tests' own: at taking alone it moves at most so many cells, as gathering or chance tells."""

    def __init__(self, sizes, pages, cells, chance=None):
        self.sizes, self.pages, self.cells, self.chance = sizes, pages, cells, chance
        self.blocks, self.handle = (), 0

    def picture(self):
        """Its picture."""
        return self.blocks

    def take(self, size):
        """As many moves as it may make, then any free unit; refused as if nothing had moved."""
        level = self.sizes.index(size)
        picture, made = self.blocks, ()
        if self.chance:
            picture, made = self.wild(picture)
        elif len(free_set(self.sizes, self.pages, picture)) >= size:
            moves, _ = gather_at(self.sizes, self.pages, picture, level)
            after, paid = behind(self.sizes, self.pages, picture, moves)
            if paid <= self.cells:
                picture, made = after, moves
        places = free_row(self.sizes, self.pages, picture, level)
        if not places:
            raise NoRoom(size)
        place = self.chance.choice(places) if self.chance else places[0]
        self.blocks = picture + ((self.handle, size, place),)
        self.handle += 1
        return self.handle - 1, made

    def wild(self, picture):
        """Moves by chance."""
        made, left = (), self.cells
        for _ in range(6):
            can = [(handle, place, size) for handle, size, _ in picture if size <= left
                   for place in free_row(self.sizes, self.pages, picture, self.sizes.index(size))]
            if can:
                handle, place, size = self.chance.choice(can)
                picture, _ = behind(self.sizes, self.pages, picture, ((handle, place),))
                made += ((handle, place),)
                left -= size
        return picture, made

    def give(self, handle):
        """Without moves."""
        self.blocks = without(self.sizes, self.pages, self.blocks, handle)
        return ()


class LazyStores(unittest.TestCase):
    def test_as_the_model(self):
        chance, moved = random.Random(1), 0
        for sizes, pages in WORLDS:
            store, picture, many, most = Lazy(list(sizes), list(pages)), (), 0, 0
            self.assertTrue(same((store.sizes, store.pages, store.picture()), (sizes, pages, ())))
            held = {}
            for deed, number in some_requests(chance, store, store.room, 220, held):
                if deed == "take":
                    level = sizes.index(number)
                    moves, place = gather_at(sizes, pages, picture, level)
                    self.assertTrue(same(gathered(sizes, pages, picture, level), (moves, place)))
                    picture, paid = behind(sizes, pages, picture, moves)
                    self.assertLessEqual(paid, gather_most(sizes, level))
                    self.assertLessEqual(paid, lazy_bounds(sizes, pages)[1])
                    most = max(most, paid)
                    self.assertTrue(same(store.take(number), (many, moves)))
                    picture += ((many, number, place),)
                    held[many] = number
                    many += 1
                else:
                    picture = without(sizes, pages, picture, number)
                    self.assertTrue(same(store.give(number), ()))
                    del held[number]
                self.assertTrue(same(store.picture(), picture))
                self.assertTrue(same(store.room(), len(free_set(sizes, pages, picture))))
            moved += most > 0
        self.assertGreater(moved, 6)

    def test_to_the_last_cell(self):
        chance = random.Random(2)
        for sizes, pages in WORLDS:
            store, asked, most = Lazy(sizes, pages), [], 0
            for request, _ in walk(chance, store, store.room, 300):
                asked.append(request)
                most = max(most, len(pages) * sizes[-1] - store.room())
            self.assertEqual(most, len(pages) * sizes[-1])
            story = follow(Lazy(sizes, pages), asked)
            self.assertEqual(judged(sizes, pages, most, (lazy_bounds(sizes, pages)[1], 0), story)[0], "kept")

    def test_two_sizes_that_count_are_cheap(self):
        # nowhere more is moved at a taking than the lesser bound tells
        for seed, (sizes, pages) in enumerate((((1, 2), (0, 4)), ((1, 4), (0, 1, 9)), ((1, 5), (0, 1)), ((2, 6), (1, 3, 4)),
                                               ((1, 2, 6), (7,)), ((1, 4, 8), (2,)))):
            store, asked, most = Lazy(sizes, pages), [], lazy_bounds(sizes, pages)
            self.assertEqual(most[0], most[1])
            for request, _ in walk(random.Random(seed), store, store.room, 500):
                asked.append(request)
            told = judged(sizes, pages, 10 ** 31, (most[1], 0), follow(Lazy(sizes, pages), asked))
            self.assertEqual(told[0], "kept")
            asked, _ = played(Lazy(sizes, pages))
            self.assertEqual(judged(sizes, pages, 10 ** 31, (most[1], 0), follow(Lazy(sizes, pages), asked))[:2],
                             ("kept", most[0]))

    def test_refusals(self):
        for sizes, pages in WORLDS + (((1, 2), ()),):
            store = Lazy(sizes, pages)
            while store.room() > sizes[0]:
                store.take(sizes[0])
            if store.picture():
                store.give(len(store.picture()) // 2)
                store.take(sizes[0])
            told = (store.picture(), store.room())
            for value in NO_NUMBERS + (0, 5 * sizes[-1], 10 ** 31, "1"):
                self.assertIs(caught(Refused, store.take, value).value, value)
                if not same(value, 0) or not pages:
                    self.assertIs(caught(NoBlock, store.give, value).handle, value)
            for size in sizes:
                if size > store.room():
                    self.assertEqual(caught(NoRoom, store.take, size).size, size)
            self.assertEqual((store.picture(), store.room()), told)
            if pages:
                handle, _ = store.take(size=sizes[0])
                self.assertEqual(handle, told[0][-1][0] + 1 if told[0] else 0)
                self.assertEqual(caught(NoRoom, store.take, sizes[0]).size, sizes[0])
                self.assertEqual(store.give(handle=handle), ())
                self.assertEqual(caught(NoBlock, store.give, handle).handle, handle)

    def test_which_fault_is_told(self):
        for call in (Lazy, lazy_bounds, lazy_many):
            for value, at in WRONG_SIZES + tuple((value, -1) for value in NO_SEQUENCES):
                self.assertEqual(caught(BadSizes, call, value, None).at, at)
            for value, at in WRONG_PAGES + tuple((value, -1) for value in NO_SEQUENCES):
                self.assertEqual(caught(BadPages, call, (1,), value).at, at)
            self.assertEqual(list(inspect.signature(call).parameters), ["sizes", "pages"])
        for value, at in WRONG_SIZES + tuple((value, -1) for value in NO_SEQUENCES):
            self.assertEqual(caught(BadSizes, lazy_request, value, None, None, None).at, at)
        for value, at in WRONG_PAGES + tuple((value, -1) for value in NO_SEQUENCES):
            self.assertEqual(caught(BadPages, lazy_request, (1,), value, None, None).at, at)


class Bounds(unittest.TestCase):
    def test_told(self):
        told = {((1,), (0,)): (0, 0), ((5,), (0, 1)): (0, 0), ((1, 2), (4,)): (0, 0), ((1, 2), (0, 1)): (1, 1),
                ((1, 64), (0, 1)): (32, 32), ((1, 5), (0, 1, 2)): (3, 3), ((2, 10), (0, 1, 2)): (6, 6),
                ((1, 2, 4), (0, 1)): (2, 4), ((1, 2, 4), (0,)): (1, 1), ((1, 4, 8, 16), (3,)): (4, 10),
                ((1, 64), tuple(range(64))): (63, 63), ((1, 2, 4, 8, 16), (0, 1, 2)): (10, 32),
                ((1, 3, 6), (10 ** 31,)): (1, 1), ((1, 5), tuple(range(7))): (4, 4)}
        for (sizes, pages), bounds in told.items():
            self.assertTrue(same(lazy_bounds(sizes, pages), bounds), (sizes, pages))
            self.assertEqual(lazy_bounds(pages=list(pages), sizes=list(sizes)), bounds)

    def test_by_fractions(self):
        for sizes in ((1,), (3,), (1, 2), (1, 7), (2, 6), (1, 64), (1, 2, 4), (1, 2, 6), (3, 12, 60), (1, 2, 4, 8, 16)):
            for many in tuple(range(1, 12)) + (63, 64):
                pages = tuple(range(many))
                self.assertTrue(same(lazy_bounds(sizes, pages), told_bounds(sizes, pages)))
                least, most = lazy_bounds(sizes, pages)
                self.assertLessEqual(least, most)

    def test_no_pages(self):
        for sizes in ((1,), (1, 2), (1, 2, 4)):
            for value in ((), []):
                for call, rest in ((lazy_bounds, ()), (lazy_many, ()), (lazy_request, (None, None))):
                    self.assertIs(caught(Refused, call, sizes, value, *rest).value, value)


class TheFoe(unittest.TestCase):
    def test_how_many(self):
        told = {((1, 2), (0, 1)): 7, ((1, 3), (2, 5, 9)): 13, ((1, 2, 6), (4,)): 9, ((1, 2, 4), (0, 3)): 13,
                ((1, 64), tuple(range(64))): 65 * 64 + 1, ((1, 2, 4, 8), (5,)): 13, ((3, 6, 12), (0,)): 7}
        for (sizes, pages), many in told.items():
            self.assertTrue(same(lazy_many(sizes, pages), many))
            self.assertEqual(lazy_many(pages=list(pages), sizes=list(sizes)), many)

    def test_just_one_size_counts(self):
        for sizes, pages in NONE_COUNT:
            for value in (sizes, list(sizes)):
                self.assertIs(caught(Refused, lazy_many, value, pages).value, value)
                self.assertIs(caught(Refused, lazy_request, value, pages, None, None).value, value)

    def test_by_the_picture(self):
        sizes, pages = (1, 3), (0, 2)
        picture = ((0, 1, 8), (1, 1, 1), (2, 1, 0), (7, 1, 6), (9, 1, 7))
        told = [lazy_request(sizes, pages, turn, picture) for turn in range(10)]
        self.assertTrue(same(told, [("take", 1)] * 6 + [("give", 7)] * 3 + [("take", 3)]))
        # as many in each: the first one
        self.assertEqual(lazy_request(sizes, pages, 6, picture[:4]), ("give", 2))
        self.assertEqual(lazy_request(sizes, pages, 8, ((4, 3, 0), (5, 1, 7))), ("give", 4))
        self.assertEqual(lazy_request(picture=[[3, 3, 6]], turn=6, pages=[0, 2], sizes=[1, 3]), ("give", 3))
        for turn in range(6):
            self.assertEqual(lazy_request(sizes, pages, turn, ()), ("take", 1))
        self.assertEqual(lazy_request(sizes, pages, 9, ()), ("take", 3))

    def test_one_page(self):
        sizes, pages = (1, 2, 6), (3,)
        picture = ((0, 1, 23), (1, 1, 20), (2, 1, 19), (3, 1, 22))
        told = [lazy_request(sizes, pages, turn, picture) for turn in range(9)]
        self.assertEqual(told, [("take", 1)] * 6 + [("give", 3)] * 2 + [("take", 2)])
        # a block that is greater than the unit begins in its first one
        self.assertEqual(lazy_request(sizes, pages, 7, ((7, 6, 18),)), ("give", 7))

    def test_counted(self):
        tried = 0
        for sizes, pages, picture in all_worlds(30):
            if not pages or len(counting(sizes, pages)[0]) == 1:
                continue
            here, places = counting(sizes, pages)
            share = here[-1] // here[0]
            turns = len(places) * share
            self.assertEqual(lazy_many(sizes, pages), turns + share + 1)
            self.assertEqual(lazy_request(sizes, pages, turns - 1, picture), ("take", here[0]))
            self.assertEqual(lazy_request(sizes, pages, turns + share, picture), ("take", here[-1]))
            begun = {place: sorted((start, handle) for handle, _, start in picture if place <= start < place + here[-1])
                     for place in places}
            most = max(map(len, begun.values()))
            for turn in (turns, turns + share - 1):
                if not most:
                    self.assertIs(caught(Refused, lazy_request, sizes, pages, turn, picture).value, picture)
                    continue
                unit = min(place for place in places if len(begun[place]) == most)
                self.assertTrue(same(lazy_request(sizes, pages, turn, picture), ("give", begun[unit][0][1])))
                tried += 1
        self.assertGreater(tried, 100)

    def test_no_block(self):
        for turn in (6, 7, 8):
            for value in ((), []):
                self.assertIs(caught(Refused, lazy_request, (1, 3), (0, 2), turn, value).value, value)

    def test_turns_that_are_none(self):
        for sizes, pages in FOES:
            many = lazy_many(sizes, pages)
            for value in NO_NUMBERS + (many, many + 1, 10 ** 31, "0"):
                self.assertIs(caught(Refused, lazy_request, sizes, pages, value, None).value, value)
                self.assertIs(caught(Refused, lazy_request, sizes, pages, value, ()).value, value)
            self.assertEqual(lazy_request(sizes, pages, many - 1, ()), ("take", counting(sizes, pages)[0][-1]))

    def test_then_the_picture(self):
        for turn in range(7):
            for value in NO_SEQUENCES:
                self.assertEqual(caught(BadPicture, lazy_request, (1, 2), (0, 1), turn, value).at, -1)
            for value in ANY:
                self.assertEqual(caught(BadPicture, lazy_request, (1, 2), (0, 1), turn, ((0, 1, 0), value)).at, 1)
            for value, at in (((None,), 0), (((0, 1, 0), (1, 1, 0)), 1), (((0, 1, 4),), 0), (((0, 4, 0),), 0)):
                self.assertEqual(caught(BadPicture, lazy_request, (1, 2), (0, 1), turn, value).at, at)


class Beaten(unittest.TestCase):
    def test_lazy_stores(self):
        for sizes, pages in FOES:
            self.assertIsNone(lazy_beaten(Lazy(sizes, pages)))
            self.assertIsNone(lazy_beaten(store=Listing(Lazy(sizes, pages))))
            once, twin = Lazy(sizes, pages), Lazy(sizes, pages)
            lazy_beaten(once)
            asked, _ = played(twin)
            self.assertEqual(once.picture(), twin.picture())
            self.assertEqual(len(asked), lazy_many(sizes, pages))
            # it is let move just what is needed, and moves it
            story = follow(Lazy(sizes, pages), asked)
            least = lazy_bounds(sizes, pages)[0]
            self.assertGreater(least, 0)
            told = judged(sizes, pages, len(pages) * sizes[-1], (10 ** 31, 0), story)
            self.assertEqual(told[0], "kept")
            self.assertGreaterEqual(told[1], least)

    def test_stores_without_moves(self):
        chance = random.Random(3)
        for sizes, pages in FOES:
            great = counting(sizes, pages)[0][-1]
            for at in range(10):
                choices = [chance.randrange(12) for _ in range(at * 6)]
                told = lazy_beaten(Plain(sizes, pages, choices))
                self.assertTrue(same(told, played(Plain(sizes, pages, choices))[1]))
                self.assertEqual(told[:3], ("refused", lazy_many(sizes, pages) - 1, great))
                self.assertEqual(len(free_set(sizes, pages, told[3])), great)
                self.assertEqual(told, lazy_beaten(Listing(Plain(sizes, pages, choices))))

    def test_stores_that_move_less(self):
        chance = random.Random(4)
        for sizes, pages in FOES:
            least, most = lazy_bounds(sizes, pages)
            for cells in sorted({0, least // 2, least - 1}):
                told = lazy_beaten(Mover(sizes, pages, cells))
                self.assertTrue(same(told, played(Mover(sizes, pages, cells))[1]))
                self.assertEqual(told[:2], ("refused", lazy_many(sizes, pages) - 1))
            for seed in range(2):
                told = lazy_beaten(Mover(sizes, pages, least - 1, random.Random(seed)))
                self.assertEqual(told, played(Mover(sizes, pages, least - 1, random.Random(seed)))[1])
                self.assertEqual(told[0], "refused")
            self.assertIsNone(lazy_beaten(Mover(sizes, pages, most)))
            self.assertIsNone(lazy_beaten(Mover(sizes, pages, most + chance.randrange(5))))

    def test_stores_that_move_at_giving_back(self):
        chance, seen = random.Random(5), set()
        for sizes, pages in FOES:
            self.assertIsNone(lazy_beaten(Keeper(sizes, pages)))
            for _ in range(6):
                choices = [chance.randrange(9) for _ in range(60)]
                told = lazy_beaten(Wild(sizes, pages, sizes[-1], choices))
                self.assertTrue(same(told, played(Wild(sizes, pages, sizes[-1], choices))[1]))
                seen.add(told is None)
        self.assertEqual(seen, {False, True})

    def test_the_first_refusal(self):
        for whim in (0, 1, 5, 9):
            told = lazy_beaten(Listing(Lazy((1, 3), (0, 1)), (whim,)))
            self.assertEqual(told[:3], ("refused", whim, 1 if whim < 6 else 3))
            self.assertEqual(len(told[3]), whim if whim < 6 else 3)
            self.assertTrue(same(told, played(Listing(Lazy((1, 3), (0, 1)), (whim,)))[1]))

    def test_a_unit_in_which_no_block_begins(self):
        empty = Lazy((1, 3), (0, 1))
        told = caught(Refused, lazy_beaten, Hider(empty)).value
        self.assertEqual(told, ())

    def test_where_there_is_no_foe(self):
        for sizes, pages in NONE_COUNT:
            for store in (Lazy(sizes, pages), Plain(sizes, pages)):
                self.assertIs(caught(Refused, lazy_beaten, store).value, store.sizes)
                self.assertEqual(store.picture(), ())
        for sizes in ((1,), (1, 2), (1, 2, 4)):
            for store in (Lazy(sizes, ()), Plain(sizes, ())):
                self.assertIs(caught(Refused, lazy_beaten, store).value, store.pages)


class Hider:
    """A store of the tests' own that shows none of its blocks."""

    def __init__(self, store):
        self.sizes, self.pages, self.store = store.sizes, store.pages, store

    def picture(self):
        """Nothing."""
        return ()

    def take(self, size):
        """The store's."""
        return self.store.take(size)

    def give(self, handle):
        """The store's."""
        return self.store.give(handle)


if __name__ == "__main__":
    unittest.main()
