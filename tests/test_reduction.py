"""Promises [43] to [46]: stores of the greater sizes out of stores of all sizes, and the other way."""

import inspect
import random
import unittest

from tests.models import KeeperModel
from tests.rows import some_requests, walk
from tests.stories import Listing
from tests.test_sizes import WRONG_SIZES
from tests.values import ANY, NO_NUMBERS, NO_SEQUENCES, caught, same
from whatmovesbuy.errors import BadSizes, NoBlock, NoRoom, Refused
from whatmovesbuy.judges import follow, judged
from whatmovesbuy.keeper import Keeper
from whatmovesbuy.moves import cost, moved
from whatmovesbuy.pictures import check_picture, free_cells, with_block, without
from whatmovesbuy.plain import Plain, Wild
from whatmovesbuy.reduction import Down, Up

WORLDS = (
    ((1, 2), (0, 1)), ((1, 4), (0, 1, 9)), ((2, 6), (1, 10 ** 31)), ((1, 2, 4), (0, 3, 4)), ((1, 2, 6), (0, 1)),
    ((1, 3, 6, 12), (1, 2, 5)), ((1, 2, 4, 8), (0, 1, 2, 3)), ((2, 4, 12, 24), (3, 4)), ((1, 2, 4, 8, 16), (0, 1, 5)),
)


def ups():
    """(sizes, level, pages) for each level below the greatest."""
    return [(sizes, level, pages) for sizes, pages in WORLDS for level in range(len(sizes) - 1)]


class UpModel:
    """The store out of one without moves, by the words of the document."""

    def __init__(self, sizes, level, plain):
        self.sizes, self.level, self.plain = sizes, level, plain
        self.unit = sizes[level + 1]
        self.small = KeeperModel(sizes[:level + 2], ())
        self.lent, self.inner, self.many = {}, {}, 0

    def name(self, in_small, handle):
        """The handle of this store."""
        return [own for own, told in self.inner.items() if told == (in_small, handle)][0]

    def named(self, moves):
        """Moves of the keeper by the handles of this store."""
        return tuple((self.name(True, handle), place) for handle, place in moves)

    def picture(self):
        """All blocks but lent units."""
        found = []
        for in_small, blocks in ((True, self.small.blocks), (False, self.plain.picture())):
            for handle, size, place in blocks:
                if in_small or handle not in self.lent.values():
                    found.append((self.name(in_small, handle), size, place))
        return tuple(sorted(found))

    def give_back(self):
        """Free units go back."""
        for page in self.small.free_pages():
            self.plain.give(self.lent.pop(page))
            self.small.pages.remove(page)

    def take(self, size):
        """Serve what waits, then take from one of the two; NoRoom by the plain one."""
        moves = self.named(self.small.settle())
        self.give_back()
        if size >= self.unit:
            self.inner[self.many] = (False, self.plain.take(size)[0])
        else:
            if self.small.room() < size:
                handle = self.plain.take(self.unit)[0]
                place = {block[0]: block[2] for block in self.plain.picture()}[handle]
                self.small.pages = sorted(self.small.pages + [place // self.unit])
                self.lent[place // self.unit] = handle
            self.inner[self.many] = (True, self.small.take(size)[0])
        self.many += 1
        return self.many - 1, moves

    def give(self, handle):
        """Give back to one of the two."""
        in_small, inner = self.inner[handle]
        if not in_small:
            del self.inner[handle]
            self.plain.give(inner)
            return ()
        moves = self.named(self.small.give(inner))
        del self.inner[handle]
        self.give_back()
        return moves


def room_of(store):
    """A function that tells how many cells a store has free."""
    return lambda: free_cells(store.sizes, store.pages, store.picture())


class Downwards(unittest.TestCase):
    def test_above_each_level(self):
        chance = random.Random(1)
        for sizes, level, pages in ups():
            for store, other in ((Keeper(sizes, pages), Keeper(sizes, pages)),
                                 (Wild(sizes, pages, 9, range_of(9)), Wild(sizes, pages, 9, range_of(9)))):
                down = Down(store, level)
                self.assertIs(down.store, store)
                self.assertTrue(same((down.sizes, down.pages), (sizes[level + 1:], pages)))
                held = {}
                for deed, number in some_requests(chance, down, room_of(down), 50, held):
                    self.assertTrue(same(down.picture(), other.picture()))
                    if deed == "give":
                        self.assertTrue(same(down.give(number), other.give(number)))
                        del held[number]
                        continue
                    try:
                        told = other.take(number)
                    except NoRoom:
                        self.assertEqual(caught(NoRoom, down.take, number).size, number)
                        continue
                    self.assertTrue(same(down.take(number), told))
                    held[told[0]] = number
                self.assertTrue(same(store.picture(), other.picture()))

    def test_sizes_and_handles_that_are_none(self):
        for sizes, level, pages in ups():
            down = Down(Keeper(sizes, pages), level)
            down.take(sizes[-1])
            for value in NO_NUMBERS + sizes[:level + 1] + (0, 5, 7, 10 ** 31):
                self.assertIs(caught(Refused, down.take, value).value, value)
            for value in NO_NUMBERS + (1, 10 ** 31):
                self.assertIs(caught(NoBlock, down.give, value).handle, value)
            self.assertEqual(len(down.picture()), 1)
            self.assertEqual(down.give(handle=0), ())
            self.assertEqual(down.take(size=sizes[-1])[0], 1)

    def test_refusals(self):
        down = Down(Plain((1, 2, 4), (0,)), 0)
        self.assertEqual([down.take(2), down.take(2)], [(0, ()), (1, ())])
        self.assertEqual(caught(NoRoom, down.take, 4).size, 4)
        self.assertEqual(caught(NoRoom, down.take, 2).size, 2)
        self.assertEqual(caught(Refused, down.take, 1).value, 1)
        self.assertEqual(caught(NoBlock, down.give, 2).handle, 2)
        self.assertEqual(down.picture(), ((0, 2, 0), (1, 2, 2)))

    def test_levels_that_are_none(self):
        for sizes, pages in WORLDS + (((3,), (0, 1)),):
            for store in (Plain(sizes, pages), Listing(Plain(sizes, pages))):
                for value in NO_NUMBERS + (len(sizes) - 1, len(sizes), 10 ** 31, "0"):
                    self.assertIs(caught(Refused, Down, store, value).value, value)
        for value in ANY:
            if isinstance(value, bool) or value not in (0, 1):
                self.assertIs(caught(Refused, Down, Plain((1, 2, 4), ()), value).value, value)
        self.assertEqual(Down(level=1, store=Plain((1, 2, 4), ())).sizes, (4,))
        self.assertEqual(list(inspect.signature(Down).parameters), ["store", "level"])

    def test_of_a_store_that_tells_lists(self):
        down = Down(Listing(Plain((1, 2, 4), (0, 3))), 1)
        self.assertTrue(same((down.sizes, down.pages), ((4,), (0, 3))))
        self.assertTrue(same((down.take(4), down.picture(), down.give(0)), ((0, ()), ((0, 4, 0),), ())))

    def test_pages_as_they_were(self):
        keeper = Keeper((1, 2), (0, 1))
        down = Down(keeper, 0)
        keeper.put_page(7)
        self.assertEqual((down.pages, keeper.pages), ((0, 1), (0, 1, 7)))
        down.take(2), down.take(2)
        self.assertEqual(down.take(2), (2, ()))

    def test_it_never_moves(self):
        chance = random.Random(2)
        for sizes, level, pages in ups():
            for cells in {0, sizes[level], sizes[level + 1] - 1}:
                wild = Wild(sizes, pages, cells, [chance.randrange(6) for _ in range(200)])
                down = Down(wild, level)
                requests = [chance.choice((("take", chance.choice(down.sizes)), ("give", chance.randrange(12))))
                            for _ in range(60)]
                story = follow(down, requests)
                self.assertNotIn(judged(down.sizes, pages, 0, (0, 0), story)[0], ("wrong", "dear"))


def range_of(many):
    """Some choices."""
    return tuple((7 * at + at // 3) % 11 for at in range(20 * many))


class Upwards(unittest.TestCase):
    def test_attributes(self):
        for sizes, level, pages in ups():
            plain = Plain(sizes[level + 1:], pages)
            for store in (Up(sizes, plain), Up(list(sizes), plain), Up(plain=plain, sizes=sizes)):
                self.assertIs(store.plain, plain)
                self.assertTrue(same((store.sizes, store.pages, store.level), (sizes, pages, level)))
                self.assertIsInstance(store.small, Keeper)
                self.assertTrue(same((store.small.sizes, store.small.pages), (sizes[:level + 2], ())))
                self.assertTrue(same((store.picture(), store.small.picture()), ((), ())))
        self.assertEqual(list(inspect.signature(Up).parameters), ["sizes", "plain"])

    def test_as_the_model(self):
        chance = random.Random(3)
        refused = 0
        for sizes, level, pages in ups():
            for most in (0, 4, 30):
                choices = [chance.randrange(most + 1) for _ in range(300)]
                store = Up(sizes, Plain(sizes[level + 1:], pages, choices))
                model = UpModel(sizes, level, Plain(sizes[level + 1:], pages, choices))
                held = {}
                for deed, number in some_requests(chance, store, room_of(store), 80, held):
                    if deed == "give":
                        self.assertTrue(same(store.give(number), model.give(number)))
                        del held[number]
                    else:
                        try:
                            told = model.take(number)
                            self.assertTrue(same(store.take(number), told))
                            held[told[0]] = number
                        except NoRoom as error:
                            self.assertEqual(caught(NoRoom, store.take, number).size, error.size)
                            self.assertEqual(error.size, max(number, sizes[level + 1]))
                            refused += 1
                    self.assertTrue(same(store.picture(), model.picture()))
                    self.assertEqual(store.plain.picture(), model.plain.picture())
                    self.assertEqual(store.small.pages, tuple(model.small.pages))
                    self.assertEqual(store.small.picture(), model.small.blocks)
        self.assertGreater(refused, 20)

    def test_moves_and_pictures(self):
        chance = random.Random(4)
        most = {}
        for sizes, level, pages in ups():
            store, unit = Up(sizes, Plain(sizes[level + 1:], pages)), sizes[level + 1]
            held, ahead = {}, ()
            for deed, number in some_requests(chance, store, lambda: room_left(store), 150, held):
                if deed == "take":
                    handle, moves = store.take(number)
                    block = [block for block in store.picture() if block[0] == handle][0]
                    self.assertEqual(store.picture(), with_block(sizes, pages, moved(sizes, pages, ahead, moves), block))
                    self.assertEqual(block[1], number)
                    held[handle] = number
                    # beneath it holds no more units than the blocks to the level need
                    few = sum(size for size in held.values() if size < unit)
                    great = sum(1 for size in held.values() if size == unit)
                    lent = sum(1 for block in store.plain.picture() if block[1] == unit) - great
                    self.assertEqual(lent, -(-few // unit))
                else:
                    ahead = without(sizes, pages, ahead, number)
                    moves = store.give(number)
                    self.assertEqual(store.picture(), moved(sizes, pages, ahead, moves))
                    del held[number]
                paid = cost(sizes, pages, ahead, moves)
                self.assertLessEqual(paid, sizes[level])
                self.assertFalse([handle for handle, _ in moves if held[handle] >= unit])
                most[level] = max(paid, most.get(level, 0))
                ahead = check_picture(sizes, pages, store.picture())
                self.assertEqual(store.small.free_pages(), ())
        self.assertGreater(min(most.values()), 0)

    def test_handles(self):
        store = Up((1, 2, 4), Plain((4,), (0, 1, 2)))
        self.assertEqual([store.take(size)[0] for size in (1, 4, 2)], [0, 1, 2])
        self.assertEqual((store.give(0), store.give(1)), ((), ()))
        self.assertEqual([store.take(size)[0] for size in (4, 1, 4)], [3, 4, 5])
        self.assertEqual(caught(NoRoom, store.take, 4).size, 4)
        self.assertEqual(store.take(1)[0], 6)

    def test_a_unit_lent_and_given_back(self):
        plain = Plain((4, 8), (0, 1), (2, 2))
        store = Up((1, 2, 4, 8), plain)
        self.assertEqual(store.take(2), (0, ()))
        # the third free unit of 4 is at 8
        self.assertEqual((plain.picture(), store.small.pages), (((0, 4, 8),), (2,)))
        self.assertEqual(store.picture(), ((0, 2, 8),))
        self.assertEqual([store.take(1), store.take(1)], [(1, ()), (2, ())])
        self.assertEqual(len(plain.picture()), 1)
        self.assertEqual(store.take(4), (3, ()))
        self.assertEqual(store.picture()[-1], (3, 4, 12))
        self.assertEqual(store.take(1), (4, ()))
        self.assertEqual((plain.picture()[-1], store.small.pages), ((2, 4, 0), (0, 2)))
        self.assertEqual(store.give(4), ())
        self.assertEqual((plain.picture(), store.small.pages), (((0, 4, 8), (1, 4, 12)), (2,)))
        self.assertEqual([store.give(handle) for handle in (0, 1, 2, 3)], [()] * 4)
        self.assertEqual((plain.picture(), store.picture(), store.small.pages), ((), (), ()))
        self.assertEqual(store.take(8), (5, ()))

    def waiting_one(self, pages):
        """A store of which 2 cells wait in the keeper of two units of 4."""
        store = Up((1, 2, 4, 8), Plain((4, 8), pages))
        for size in (2, 1, 1, 2, 1, 1):
            store.take(size)
        self.assertEqual([store.give(1), store.give(3), store.give(4)], [(), (), ((2, 6),)])
        self.assertEqual(store.picture(), ((0, 2, 0), (2, 1, 6), (5, 1, 7)))
        self.assertEqual((store.small.kind(), store.small.waiting()), ("page", 2))
        return store

    def test_what_waits_is_served_first(self):
        for size, place in ((1, 0), (2, 0), (4, 0), (8, 8)):
            store = self.waiting_one((0, 1))
            self.assertEqual(store.take(size), (6, ((0, 4),)))
            self.assertEqual(store.picture(), ((0, 2, 4), (2, 1, 6), (5, 1, 7), (6, size, place)))
            self.assertEqual(len(store.plain.picture()), 2)

    def test_behind_a_refusal(self):
        store = self.waiting_one((0,))
        self.assertEqual(caught(NoRoom, store.take, 8).size, 8)
        # what was served stays, and the unit that came free is given back
        self.assertEqual(store.picture(), ((0, 2, 4), (2, 1, 6), (5, 1, 7)))
        self.assertEqual(store.plain.picture(), ((1, 4, 4),))
        self.assertEqual(store.take(4), (6, ()))
        for size, told in ((1, 4), (2, 4), (4, 4), (8, 8)):
            self.assertEqual(caught(NoRoom, store.take, size).size, told)
        self.assertEqual(store.give(6), ())
        self.assertEqual(store.take(1), (7, ()))

    def test_sizes_that_do_not_fit(self):
        for sizes, below in (((1, 2, 4), (1, 2, 4)), ((1, 2, 4), (2,)), ((1, 2, 4), (8,)), ((1, 2, 4), (1,)), ((4,), (4,)),
                             ((1, 2, 4), (1, 4)), ((2, 4), (1, 2, 4)), ((1, 2, 4), (2, 4, 8)), ((1, 2, 4), (2, 8))):
            for value in (sizes, list(sizes)):
                self.assertIs(caught(Refused, Up, value, Plain(below, (0, 1))).value, value)
                self.assertIs(caught(Refused, Up, value, Listing(Plain(below, (0, 1)))).value, value)
        for value, at in WRONG_SIZES + tuple((value, -1) for value in NO_SEQUENCES):
            self.assertEqual(caught(BadSizes, Up, value, Plain((2, 4), ())).at, at)

    def test_sizes_and_handles_that_are_none(self):
        store = Up((1, 2, 4), Plain((4,), (0, 1)))
        self.assertEqual([store.take(2), store.take(size=4)], [(0, ()), (1, ())])
        told = store.picture()
        for value in NO_NUMBERS + (0, 3, 8, 10 ** 31):
            self.assertIs(caught(Refused, store.take, value).value, value)
        for value in ANY:
            if isinstance(value, bool) or value not in (0, 1):
                self.assertIs(caught(NoBlock, store.give, value).handle, value)
        self.assertEqual(store.picture(), told)
        self.assertEqual([store.give(handle=1), store.give(0)], [(), ()])
        for handle in (0, 1, 2):
            self.assertEqual(caught(NoBlock, store.give, handle).handle, handle)

    def test_of_a_store_that_tells_lists(self):
        chance = random.Random(6)
        one, other = Up((1, 2, 4), Plain((2, 4), (0, 3))), Up([1, 2, 4], Listing(Plain((2, 4), (0, 3))))
        for request, told in walk(chance, one, lambda: room_left(one), 80):
            self.assertTrue(same(other.take(request[1]) if request[0] == "take" else other.give(request[1]), told))
            self.assertTrue(same(other.picture(), one.picture()))
        self.assertTrue(same((other.sizes, other.pages), ((1, 2, 4), (0, 3))))

    def test_more_units_than_a_keeper_has_pages(self):
        store = Up((1, 2, 4), Plain((2, 4), tuple(range(64))))
        for _ in range(140):
            store.take(1)
        self.assertEqual(len(store.small.pages), 70)
        for handle in range(0, 140, 2):
            self.assertLessEqual(len(store.give(handle)), 1)
        self.assertEqual(len(store.small.pages), 35)

    def test_down_and_up_again(self):
        # out of a store that may not move as much as the greatest size, by it alone, comes one that keeps all cells
        chance = random.Random(7)
        for sizes, pages in WORLDS:
            store = Up(sizes, Down(Wild(sizes, pages, sizes[-1] - 1, range_of(9)), len(sizes) - 2))
            asked = [request for request, _ in walk(chance, store, room_of(store), 80)]
            store = Up(sizes, Down(Wild(sizes, pages, sizes[-1] - 1, range_of(9)), len(sizes) - 2))
            told = judged(sizes, pages, len(pages) * sizes[-1], (sizes[-2], sizes[-2]), follow(store, asked))
            self.assertEqual(told[0], "kept")


def room_left(store):
    """How many cells may be asked for so that a store without moves beneath refuses nothing: that of free pages."""
    sizes, level = store.sizes, store.level
    held = {page for page in store.pages for block in store.plain.picture()
            if page * sizes[-1] <= block[2] < (page + 1) * sizes[-1]}
    if level == len(sizes) - 2:
        return free_cells(sizes, store.pages, store.picture())
    return sizes[-1] * (len(store.pages) - len(held))


class TheReduction(unittest.TestCase):
    def test_out_of_the_greatest_size_alone(self):
        chance = random.Random(8)
        for sizes, pages in WORLDS:
            store = Up(sizes, Plain(sizes[-1:], pages, [chance.randrange(5) for _ in range(99)]))
            asked, most = [], 0
            for request, _ in walk(chance, store, room_of(store), 300):
                asked.append(request)
                most = max(most, len(pages) * sizes[-1] - room_of(store)())
            self.assertEqual(most, len(pages) * sizes[-1])
            story = follow(Up(sizes, Plain(sizes[-1:], pages)), asked)
            told = judged(sizes, pages, most, (sizes[-2], sizes[-2]), story)
            self.assertEqual(told[0], "kept")
            self.assertGreater(told[1], 0)

    def test_full_of_each_size(self):
        for sizes, pages in WORLDS:
            for size in sizes:
                store = Up(sizes, Plain(sizes[-1:], pages))
                for _ in range(len(pages) * sizes[-1] // size):
                    store.take(size)
                self.assertEqual(room_of(store)(), 0)
                self.assertEqual(caught(NoRoom, store.take, sizes[0]).size, sizes[-1])


if __name__ == "__main__":
    unittest.main()
