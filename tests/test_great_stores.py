"""Stores as great as what is passed may be: 64 pages full of small blocks, stories of 300 entries, great numbers."""

import random
import time
import unittest

from tests.test_great import CELL, PAGES, PICTURE, SECONDS, SIZES
from whatmovesbuy.books import Journal, opened
from whatmovesbuy.desk import Desk, resumed
from whatmovesbuy.eager import Eager, eager_beaten, eager_many, eager_plan
from whatmovesbuy.errors import NoRoom
from whatmovesbuy.foe import beaten, foe_many
from whatmovesbuy.gather import gather_most, gathered
from whatmovesbuy.judges import Retold, follow, judged, measures, refusals, wrong_at
from whatmovesbuy.keeper import Keeper
from whatmovesbuy.lazy import Lazy, lazy_beaten, lazy_many, lazy_request
from whatmovesbuy.live import Live, pages_along
from whatmovesbuy.plain import Plain, Wild
from whatmovesbuy.reduction import Down, Up
from whatmovesbuy.serving import due, served, settled, step, steps
from whatmovesbuy.units import is_smooth

ROUGH = ((1, 2, 64), (1, 64), SIZES, (1, 2, 4, 8, 64), (1, 4, 16, 64))


class GreatStores(unittest.TestCase):
    def soon(self, call, *rest):
        """What a call returns, in time."""
        begin = time.perf_counter()
        told = call(*rest)
        self.assertLess(time.perf_counter() - begin, SECONDS)
        return told

    def test_serving(self):
        # each other cell held, of as many as a picture may have
        each_other = tuple((at, 1, CELL + 2 * at) for at in range(1000))
        for sizes in ROUGH:
            for picture in (each_other,) + ((PICTURE,) if sizes == SIZES else ()):
                moves, after = self.soon(settled, sizes, PAGES, picture)
                self.assertTrue(is_smooth(sizes, PAGES, after))
                paid = sum(cost for _, cost in self.soon(steps, sizes, PAGES, picture))
                self.assertEqual(self.soon(due, sizes, PAGES, picture), paid)
                self.assertEqual(self.soon(served, sizes, PAGES, picture, 10 ** 31), (moves, after))
                self.assertGreater(len(self.soon(step, sizes, PAGES, picture, 0)), 0)

    def test_keepers_full_of_small_blocks(self):
        for sizes in ROUGH:
            keeper = Keeper(sizes, PAGES)
            for _ in range(4096):
                keeper.take(1)
            begin = time.perf_counter()
            for handle in range(0, 4096, 64):
                for at in range(9):
                    keeper.give(handle + (5 * at) % 64)
                self.assertIn(keeper.kind(), ("smooth", "page", "deep"))
            for _ in range(8):
                keeper.waiting(), keeper.take(64)
            again = Keeper(sizes, PAGES, keeper.picture(), keeper.taken)
            self.assertEqual(again.take(sizes[1]), keeper.take(sizes[1]))
            self.assertLess(time.perf_counter() - begin, SECONDS)

    def test_great_handles(self):
        keeper = Keeper((1, 64), PAGES, ((10 ** 31, 1, CELL),), 10 ** 31 + 1)
        self.assertEqual(keeper.take(64), (10 ** 31 + 1, ()))
        self.assertEqual(keeper.give(10 ** 31), ())

    def test_stories(self):
        chance = random.Random(1)
        for sizes in ROUGH:
            requests = [chance.choice((("take", 1), ("take", sizes[1]), ("take", 64), ("give", chance.randrange(100))))
                        for _ in range(300)]
            for store in (Keeper(sizes, PAGES), Wild(sizes, PAGES, 64, [chance.randrange(9) for _ in range(1000)])):
                story = self.soon(follow, store, requests)
                self.assertIsNone(self.soon(wrong_at, sizes, PAGES, story))
                self.assertEqual(len(self.soon(measures, sizes, PAGES, story)), 300)
                self.soon(refusals, sizes, PAGES, story)
                self.assertEqual(self.soon(judged, sizes, PAGES, 0, (64, 64), story)[0], "kept")
                self.assertEqual(self.soon(follow, Retold(sizes, PAGES, story), requests), story)
            story = self.soon(follow, Keeper(sizes, PAGES), [("take", 1)] * 300)
            self.assertEqual(self.soon(judged, sizes, PAGES, 4096, (0, 0), story), ("kept", 0, 0))

    def test_foes(self):
        for sizes in ROUGH:
            told = self.soon(beaten, Plain(sizes, PAGES))
            self.assertEqual(told[1], foe_many(sizes, PAGES) - 1)
            self.assertIsNone(self.soon(beaten, Keeper(sizes, PAGES)))
            self.assertIsNone(self.soon(eager_beaten, Eager(sizes, PAGES)))
            self.assertEqual(self.soon(eager_beaten, Plain(sizes, PAGES))[2], 64)
            self.assertEqual(eager_many(sizes, PAGES), 4099)
            self.assertEqual(sum(eager_plan(sizes, PAGES)), 63 * 64 + 1)

    def test_wild_stores(self):
        # all choices are read by one request
        for sizes in ROUGH:
            wild = Wild(sizes, PAGES, 10 ** 31, [0, 0] * 300 + [10 ** 31 - at for at in range(400)])
            for _ in range(300):
                wild.take(1)
            moves = self.soon(wild.give, 7)
            self.assertEqual(len(moves), 400)

    def test_reductions(self):
        for sizes in ROUGH:
            store = Up(sizes, Down(Keeper(sizes, PAGES), len(sizes) - 2))
            for _ in range(4096):
                store.take(1)
            self.assertRaises(NoRoom, store.take, 1)
            begin = time.perf_counter()
            for handle in range(0, 4096, 50):
                store.give(handle)
            store.take(64)
            self.assertLess(time.perf_counter() - begin, SECONDS)

    def test_eager_stores(self):
        for sizes in ROUGH:
            store = Eager(sizes, PAGES)
            for _ in range(4096):
                store.take(1)
            begin = time.perf_counter()
            for handle in range(0, 4096, 20):
                store.give(handle)
            self.assertEqual(store.room(), 205)
            self.assertEqual(store.take(64), (4096, ()))
            self.assertLess(time.perf_counter() - begin, SECONDS)

    def test_lazy_stores(self):
        for sizes in ROUGH:
            store = Lazy(sizes, PAGES)
            for _ in range(4096):
                store.take(1)
            # one cell of each page, then some more
            for handle in list(range(0, 4096, 64)) + list(range(1, 4096, 128)):
                store.give(handle)
            picture = store.picture()
            moves, place = self.soon(gathered, sizes, PAGES, picture, len(sizes) - 1)
            self.assertEqual(self.soon(store.take, 64), (4096, moves))
            self.assertEqual(store.picture()[-1], (4096, 64, place))
            self.assertLessEqual(len(moves), gather_most(sizes, len(sizes) - 1))
            self.assertGreater(len(moves), 30)
            self.soon(store.give, 700)
            self.soon(lazy_request, sizes, PAGES, 4100, picture)

    def test_the_foe_of_lazy_stores(self):
        for sizes in ((1, 16), (1, 2, 4, 8, 16), (1, 2, 32)):
            self.assertIsNone(self.soon(lazy_beaten, Lazy(sizes, PAGES)))
            self.assertEqual(self.soon(lazy_beaten, Plain(sizes, PAGES))[1], lazy_many(sizes, PAGES) - 1)

    def test_live_stores(self):
        for sizes in ROUGH:
            live = Live(sizes)
            for _ in range(4096):
                live.take(1)
            self.assertEqual((len(live.numbers()), live.in_use()), (64, 4096))
            self.assertRaises(NoRoom, live.take, 1)
            for handle in range(0, 4096, 40):
                self.soon(live.give, handle)
            self.assertEqual(self.soon(live.take, 64)[0], 4096)
            self.assertEqual(len(live.numbers()), 64)
            row = [("take", 64)] * 20 + [("take", 1)] * 200 + [("give", handle) for handle in range(20, 100)]
            self.assertEqual(self.soon(pages_along, sizes, row)[-1], 22)

    def test_journals(self):
        for sizes in ROUGH:
            keeper = Keeper(sizes, PAGES)
            for _ in range(4096):
                keeper.take(1)
            # it begins with 64 pages full of small blocks
            journal = Journal(sizes, PAGES, keeper.picture(), keeper.taken)
            for handle in range(0, 4096, 28):
                journal.give(handle)
                journal.take(1)
            octets = self.soon(journal.octets)
            again, behind = self.soon(opened, octets)
            self.assertEqual(behind, len(octets))
            self.assertEqual(len(again.records()), 294)
            back = self.soon(again.rewound, 293)
            self.assertEqual(len(back.picture()), 4095)
            self.assertEqual(self.soon(journal.folded).picture(), again.picture())

    def test_desks(self):
        for sizes in ROUGH:
            desk = Desk(sizes, PAGES)
            for _ in range(4096):
                desk.tell("take 1")
            for line in ("room", "show", "holes", "take 1", "give 77", "give 1000", "holes", "room", "journal", "buys 7",
                         "put 1", "drop 1", "back", "back", "take 1", "back"):
                self.assertIsInstance(self.soon(desk.tell, line), str)
            self.assertEqual(desk.tell("room"), "1 free; 0 waiting; smooth")
            octets = desk.journal.octets()
            self.assertEqual(self.soon(resumed, octets)[1], len(octets))


if __name__ == "__main__":
    unittest.main()
