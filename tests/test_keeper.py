"""Promises [27] to [31]: the keeper, full use, its kinds, and pages that come and go."""

import inspect
import random
import unittest

from tests.models import KeeperModel, kind_by_cells, serve
from tests.rows import walk
from tests.test_sizes import WRONG_PAGES, WRONG_SIZES
from tests.values import ANY, NO_NUMBERS, NO_SEQUENCES, caught, same
from tests.worlds import all_worlds, free_set, some_worlds
from whatmovesbuy.errors import BadPages, BadPicture, BadSizes, NoBlock, NoRoom, Refused
from whatmovesbuy.keeper import Keeper, least_moves
from whatmovesbuy.moves import cost, moved
from whatmovesbuy.pictures import with_block, without
from whatmovesbuy.takes import place_for
from whatmovesbuy.units import kind

SIZES = (1, 2, 6)
WORLDS = (
    ((3,), (2, 5)), ((1, 2), (0, 4)), ((1, 4), (0, 1, 9)), ((2, 6), (1, 10 ** 31)), ((1, 2, 4), (0, 3, 4)),
    ((1, 2, 6), (0, 1)), ((1, 3, 6, 12), (1, 2, 5)), ((1, 2, 4, 8), (0, 1, 2, 3)), ((2, 4, 12, 24), (3, 4)),
    ((1, 2, 4, 8, 16), (0, 1, 5)), ((1, 2, 4, 8, 16), (2,)), ((1, 3, 9, 27), (0, 1, 2, 3)),
)
# of no kind: loose right below the greatest of two sizes; two pages torn, none with one free child; one page too many
NO_KINDS = (
    ((1, 2), (0, 1), ((0, 1, 0), (1, 1, 2))), ((1, 2, 6), (0, 1), ((0, 2, 0), (1, 2, 6))),
    ((1, 2, 4), (0, 1, 2), ((0, 2, 0), (1, 2, 4), (2, 2, 8))), ((1, 2, 4), (0, 1), ((0, 1, 0), (1, 1, 2))),
)


def seen(keeper):
    """All that a keeper tells without being changed."""
    return (keeper.sizes, keeper.pages, keeper.cells, keeper.taken, keeper.picture(), keeper.kind(), keeper.room(),
            keeper.waiting(), keeper.free_pages())


def full(sizes, pages, size):
    """A keeper that is full of blocks of one size."""
    keeper = Keeper(sizes, pages)
    while keeper.room():
        keeper.take(size)
    return keeper


class LeastMoves(unittest.TestCase):
    def test_told(self):
        for sizes, told in (((1,), 0), ((64,), 0), ((1, 2), 1), ((1, 2, 6), 2), ((3, 6, 12, 24), 12),
                            ([1, 2, 4, 8, 64], 8)):
            self.assertTrue(same(least_moves(sizes), told))
            self.assertEqual(least_moves(sizes=sizes), told)
            self.assertTrue(same(Keeper(sizes, ()).cells, told))

    def test_no_sizes(self):
        for value, at in WRONG_SIZES + tuple((value, -1) for value in NO_SEQUENCES):
            self.assertEqual(caught(BadSizes, least_moves, value).at, at)


class Beginning(unittest.TestCase):
    def test_attributes(self):
        keeper = Keeper([1, 2, 6], [3, 5])
        self.assertTrue(same((keeper.sizes, keeper.pages, keeper.cells, keeper.taken), (SIZES, (3, 5), 2, 0)))
        self.assertTrue(same(keeper.picture(), ()))
        self.assertEqual((keeper.kind(), keeper.room(), keeper.waiting()), ("smooth", 12, 0))
        blocks = [[0, 1, 18], [4, 2, 20]]
        keeper = Keeper(taken=7, picture=blocks, pages=[3, 5], sizes=[1, 2, 6])
        blocks[0][0] = 9
        blocks.clear()
        self.assertTrue(same(keeper.picture(), ((0, 1, 18), (4, 2, 20))))
        self.assertTrue(same((keeper.taken, keeper.room()), (7, 9)))
        self.assertEqual(keeper.take(1), (7, ()))
        self.assertEqual(keeper.taken, 8)

    def test_parameters(self):
        self.assertEqual(list(inspect.signature(Keeper).parameters), ["sizes", "pages", "picture", "taken"])
        for name, told in {"take": ["size"], "give": ["handle"], "put_page": ["number"], "drop_page": ["number"]}.items():
            self.assertEqual(list(inspect.signature(getattr(Keeper((1,), ()), name)).parameters), told)

    def test_pictures_of_each_kind(self):
        tried = {}
        for sizes, pages, picture in all_worlds(40):
            told = kind_by_cells(sizes, pages, picture)
            least = picture[-1][0] + 1 if picture else 0
            tried[told] = tried.get(told, 0) + 1
            if told is None:
                self.assertIs(caught(Refused, Keeper, sizes, pages, picture, least).value, picture)
                continue
            keeper = Keeper(sizes, pages, picture, least)
            self.assertEqual((keeper.kind(), keeper.picture()), (told, picture))
            self.assertEqual(keeper.room(), len(free_set(sizes, pages, picture)))
            self.assertEqual(keeper.waiting(), sum(paid for _, paid in serve(sizes, pages, picture, None)[0]))
        self.assertGreater(min(tried[told] for told in ("smooth", "page", None)), 10)

    def test_pictures_of_no_kind(self):
        for sizes, pages, picture in NO_KINDS:
            for taken in (0, 10, None, "1"):
                for value in (picture, list(picture)):
                    self.assertIs(caught(Refused, Keeper, sizes, pages, value, taken).value, value)

    def test_wrong_next_handles(self):
        picture = ((0, 1, 0), (5, 2, 2))
        for value in NO_NUMBERS + (0, 4, 5):
            self.assertIs(caught(Refused, Keeper, SIZES, (0,), picture, value).value, value)
        for value in NO_NUMBERS:
            self.assertIs(caught(Refused, Keeper, SIZES, (0,), (), value).value, value)
        for value in (6, 7, 10 ** 31):
            self.assertEqual(Keeper(SIZES, (0,), picture, value).take(1), (value, ()))
        self.assertEqual(Keeper(SIZES, (0,), (), 5).take(6), (5, ()))
        self.assertEqual(caught(Refused, Keeper, SIZES, (0,), ((0, 1, 0),)).value, 0)

    def test_which_fault_is_told(self):
        for value, at in WRONG_SIZES:
            self.assertEqual(caught(BadSizes, Keeper, value, None, None, None).at, at)
        for value, at in WRONG_PAGES:
            self.assertEqual(caught(BadPages, Keeper, SIZES, value, None, None).at, at)
        for value, at in (((None,), 0), (((0, 1, 0), (0, 1, 1)), 1), (((0, 2, 1),), 0), (((0, 6, 6),), 0)):
            self.assertEqual(caught(BadPicture, Keeper, SIZES, (0,), value, None).at, at)
        for value in NO_SEQUENCES:
            self.assertEqual(caught(BadPicture, Keeper, SIZES, (0,), value, None).at, -1)


class Walking(unittest.TestCase):
    def test_as_the_model(self):
        chance = random.Random(1)
        for sizes, pages in WORLDS:
            keeper, model = Keeper(sizes, pages), KeeperModel(sizes, pages)
            for (deed, number), told in walk(chance, keeper, keeper.room, 90):
                self.assertTrue(same(told, model.take(number) if deed == "take" else model.give(number)))
                self.assertTrue(same(seen(keeper), (
                    sizes, pages, model.cells, model.taken, model.blocks, model.kind(), model.room(), model.waiting(),
                    model.free_pages())))

    def test_told_twice_alike_and_made_anew(self):
        chance = random.Random(2)
        for sizes, pages in WORLDS:
            keeper = Keeper(sizes, pages)
            for (deed, number), _ in walk(chance, keeper, keeper.room, 70):
                self.assertEqual(seen(keeper), seen(keeper))
                again = Keeper(keeper.sizes, keeper.pages, keeper.picture(), keeper.taken)
                self.assertEqual(seen(again), seen(keeper))
                twin = Keeper(keeper.sizes, keeper.pages, keeper.picture(), keeper.taken)
                for size in sizes:
                    if size <= again.room():
                        self.assertEqual(again.take(size), twin.take(size))
                for handle in [block[0] for block in twin.picture()][::2]:
                    self.assertEqual(again.give(handle), twin.give(handle))
                self.assertEqual(seen(again), seen(twin))

    def test_goes_on_alike(self):
        chance = random.Random(3)
        for sizes, pages in WORLDS:
            one = Keeper(sizes, pages)
            for _ in walk(chance, one, one.room, 60):
                pass
            other = Keeper(one.sizes, one.pages, one.picture(), one.taken)
            for _ in range(60):
                handles = [block[0] for block in one.picture()]
                fits = [size for size in sizes if size <= one.room()]
                if fits and chance.randrange(3):
                    size = chance.choice(fits)
                    self.assertEqual(one.take(size), other.take(size))
                elif handles:
                    handle = chance.choice(handles)
                    self.assertEqual(one.give(handle), other.give(handle))
                self.assertEqual(seen(one), seen(other))

    def test_beside_one_another(self):
        chance = random.Random(4)
        for sizes, pages in WORLDS[3:6]:
            one, other, alone = Keeper(sizes, pages), Keeper(sizes, pages), Keeper(sizes, pages)
            rows = []
            for request, told in walk(chance, alone, alone.room, 60):
                rows.append((request, told))
            for at in range(80):
                for keeper, row in ((one, rows[at:at + 1]), (other, rows[at - 20:at - 19] if at >= 20 else [])):
                    for (deed, number), told in row:
                        self.assertEqual(keeper.take(number) if deed == "take" else keeper.give(number), told)
            self.assertEqual(seen(one), seen(alone))
            self.assertEqual(seen(other), seen(alone))

    def test_settle(self):
        chance = random.Random(5)
        waited = 0
        for sizes, pages in WORLDS:
            keeper = Keeper(sizes, pages)
            for _ in walk(chance, keeper, keeper.room, 300):
                again = Keeper(sizes, pages, keeper.picture(), keeper.taken)
                due, picture, room = again.waiting(), again.picture(), again.room()
                moves = again.settle()
                self.assertIsInstance(moves, tuple)
                self.assertEqual(moves, serve(sizes, pages, picture, None)[1])
                self.assertEqual(cost(sizes, pages, picture, moves), due)
                self.assertEqual(moved(sizes, pages, picture, moves), again.picture())
                self.assertEqual((again.kind(), again.waiting(), again.room()), ("smooth", 0, room))
                self.assertEqual((again.settle(), again.taken), ((), keeper.taken))
                waited += due > 0
        self.assertGreater(waited, 10)


class Refusing(unittest.TestCase):
    def test_sizes_that_are_none(self):
        for keeper in (Keeper(SIZES, (0, 1)), full(SIZES, (0, 1), 1), Keeper(SIZES, ())):
            told = seen(keeper)
            for value in NO_NUMBERS + (0, 3, 4, 12, 10 ** 31):
                self.assertIs(caught(Refused, keeper.take, value).value, value)
            for value in ANY:
                if isinstance(value, bool) or value not in SIZES:
                    self.assertIs(caught(Refused, keeper.take, value).value, value)
            self.assertEqual(seen(keeper), told)

    def test_handles_that_are_none(self):
        keeper = full(SIZES, (0, 1), 2)
        keeper.give(3)
        told = seen(keeper)
        for value in NO_NUMBERS + (3, 6, 7, 10 ** 31, "0"):
            self.assertIs(caught(NoBlock, keeper.give, value).handle, value)
        self.assertEqual(seen(keeper), told)
        self.assertEqual(keeper.give(handle=0), ((1, 6),))

    def test_no_room(self):
        for sizes, pages in WORLDS:
            for many in range(len(pages) * sizes[-1] // sizes[0] + 1):
                keeper = Keeper(sizes, pages)
                for _ in range(many):
                    keeper.take(sizes[0])
                told = seen(keeper)
                for size in sizes:
                    if keeper.room() < size:
                        self.assertEqual(caught(NoRoom, keeper.take, size).size, size)
                        self.assertEqual(seen(keeper), told)
        self.assertEqual(caught(NoRoom, Keeper((1,), ()).take, 1).size, 1)

    def test_no_room_while_something_waits(self):
        chance = random.Random(6)
        waited = 0
        for sizes, pages in WORLDS:
            keeper = Keeper(sizes, pages)
            for _ in walk(chance, keeper, keeper.room, 400):
                told = seen(keeper)
                for size in sizes:
                    if size > keeper.room():
                        self.assertEqual(caught(NoRoom, keeper.take, size).size, size)
                        self.assertEqual(seen(keeper), told)
                        waited += keeper.waiting() > 0
        self.assertGreater(waited, 5)


class FullUse(unittest.TestCase):
    def test_to_the_last_cell(self):
        chance = random.Random(7)
        most, follows = {}, {}
        for sizes, pages in WORLDS + (((1, 2, 4, 8, 16), (0, 1, 2, 3, 4, 5)), ((1, 2, 4, 8, 32), (0, 1, 2))):
            keeper, last, ahead = Keeper(sizes, pages), "smooth", ()
            third = sizes[-3] if len(sizes) > 2 else 0
            for (deed, number), told in walk(chance, keeper, keeper.room, 1500):
                picture = keeper.picture()
                waiting = keeper.waiting()
                if deed == "take":
                    self.assertEqual(keeper.kind(), "smooth")
                    between = moved(sizes, pages, ahead, told[1])
                    self.assertEqual(place_for(sizes, pages, between, number), picture[-1][2])
                    paid = cost(sizes, pages, ahead, told[1])
                else:
                    paid = cost(sizes, pages, without(sizes, pages, ahead, number), told)
                    follows.setdefault(last, set()).add(keeper.kind())
                self.assertLessEqual(paid, keeper.cells)
                most[sizes] = max(paid, most.get(sizes, 0))
                last, ahead = keeper.kind(), picture
                self.assertEqual(last, kind(sizes, pages, picture))
                if last == "smooth":
                    self.assertEqual(waiting, 0)
                else:
                    self.assertGreater(waiting, 0)
                    self.assertLessEqual(waiting, keeper.cells if last == "page" else third - 1)
        self.assertEqual(follows["smooth"], {"smooth", "page"})
        self.assertLessEqual(follows["page"] | follows["deep"], {"smooth", "page", "deep"})
        self.assertIn("deep", follows["page"] | follows["deep"])
        for sizes, paid in most.items():
            if len(sizes) > 1:
                self.assertGreater(paid, 0)
        self.assertEqual(most[(1, 2, 4, 8, 16)], 8)

    def test_full_of_each_size(self):
        for sizes, pages in WORLDS:
            for size in sizes:
                keeper = full(sizes, pages, size)
                self.assertEqual(keeper.room(), 0)
                self.assertEqual(len(keeper.picture()), len(pages) * sizes[-1] // size)

    def test_every_other_block_given_back(self):
        for sizes, pages in WORLDS:
            keeper = full(sizes, pages, sizes[0])
            for handle in range(0, keeper.taken, 2):
                ahead = without(sizes, pages, keeper.picture(), handle)
                self.assertLessEqual(cost(sizes, pages, ahead, keeper.give(handle)), keeper.cells)
                self.assertIn(keeper.kind(), ("smooth", "page", "deep"))
            while keeper.room() >= sizes[-1]:
                ahead = keeper.picture()
                handle, moves = keeper.take(sizes[-1])
                self.assertLessEqual(cost(sizes, pages, ahead, moves), keeper.cells)
            self.assertLess(keeper.room(), sizes[-1])

    def test_from_pictures_of_each_kind(self):
        tried = {}
        for sizes, pages, picture in some_worlds(1, 60):
            told = kind(sizes, pages, picture)
            if told in (None, "smooth"):
                continue
            least = picture[-1][0] + 1
            for handle, _, _ in picture:
                keeper = Keeper(sizes, pages, picture, least)
                ahead = without(sizes, pages, picture, handle)
                moves = keeper.give(handle)
                self.assertLessEqual(cost(sizes, pages, ahead, moves), keeper.cells)
                self.assertIn(keeper.kind(), ("smooth", "page", "deep"))
            for size in sizes:
                keeper = Keeper(sizes, pages, picture, least)
                if size <= keeper.room():
                    _, moves = keeper.take(size)
                    self.assertLessEqual(cost(sizes, pages, picture, moves), keeper.cells)
                    self.assertEqual(keeper.kind(), "smooth")
            tried[told] = tried.get(told, 0) + 1
        self.assertGreater(tried["page"], 10)

    def test_deep_pictures(self):
        # two units of 2 are torn, nothing else; pages of 16, or 24
        for sizes in ((1, 2, 4, 8), (1, 2, 4, 8, 16), (1, 2, 6, 12)):
            span = sizes[-1]
            fill = [(1, 0), (2, 2), (1, span), (2, span + 2)]
            fill += [(sizes[2], place) for place in range(sizes[2], span, sizes[2])]
            fill += [(sizes[2], span + place) for place in range(sizes[2], span, sizes[2])]
            if sizes[2] == 6:
                fill += [(2, 4), (2, span + 4)]
            picture = tuple((handle, size, place) for handle, (size, place) in enumerate(fill))
            self.assertEqual(Keeper(sizes, (0, 1), picture, 99).kind(), "deep")
            self.assertEqual(Keeper(sizes, (0, 1), picture, 99).waiting(), 1)
            for handle, size, _ in picture:
                keeper = Keeper(sizes, (0, 1), picture, 99)
                ahead = without(sizes, (0, 1), picture, handle)
                self.assertLessEqual(cost(sizes, (0, 1), ahead, keeper.give(handle)), keeper.cells)
                self.assertIn(keeper.kind(), ("smooth", "page", "deep"))


class Pages(unittest.TestCase):
    def test_free_pages(self):
        keeper = Keeper(SIZES, (1, 4, 9))
        self.assertTrue(same(keeper.free_pages(), (1, 4, 9)))
        keeper.take(1)
        self.assertEqual(keeper.free_pages(), (4, 9))
        keeper.take(6)
        self.assertEqual(keeper.free_pages(), (9,))
        keeper.give(0)
        self.assertEqual(keeper.free_pages(), (1, 9))

    def test_put_and_drop(self):
        keeper = Keeper(SIZES, (1, 4))
        self.assertIsNone(keeper.put_page(number=2))
        self.assertTrue(same(keeper.pages, (1, 2, 4)))
        self.assertEqual(keeper.room(), 18)
        keeper.take(6)
        keeper.take(6)
        self.assertEqual(keeper.picture(), ((0, 6, 6), (1, 6, 12)))
        for value in NO_NUMBERS + (0, 1, 2, 3, 5, 10 ** 31, "4", [4]):
            self.assertIs(caught(Refused, keeper.drop_page, value).value, value)
        self.assertIsNone(keeper.drop_page(number=4))
        self.assertEqual((keeper.pages, keeper.room(), keeper.free_pages()), ((1, 2), 0, ()))
        for value in NO_NUMBERS:
            self.assertIs(caught(Refused, Keeper(SIZES, (0, 1)).drop_page, value).value, value)
        self.assertEqual(caught(Refused, keeper.drop_page, 4).value, 4)
        for value in NO_NUMBERS + (1, 2, "3", (3,)):
            self.assertIs(caught(Refused, keeper.put_page, value).value, value)
        self.assertEqual((keeper.pages, keeper.picture()), ((1, 2), ((0, 6, 6), (1, 6, 12))))
        keeper.put_page(10 ** 31)
        keeper.put_page(0)
        self.assertEqual(keeper.pages, (0, 1, 2, 10 ** 31))
        self.assertEqual([keeper.take(6), keeper.take(6)], [(2, ()), (3, ())])
        self.assertEqual([block[2] for block in keeper.picture()], [6, 12, 0, 6 * 10 ** 31])

    def test_the_65th(self):
        keeper = Keeper((1, 2), tuple(range(63)))
        keeper.put_page(100)
        self.assertEqual(len(keeper.pages), 64)
        for number in (101, 63, 0, None):
            self.assertIs(caught(Refused, keeper.put_page, number).value, number)
        keeper.drop_page(7)
        keeper.put_page(101)
        self.assertEqual(len(keeper.pages), 64)
        self.assertEqual(keeper.room(), 128)

    def test_pages_come_and_go_between_requests(self):
        chance = random.Random(8)
        for sizes, pages in WORLDS:
            keeper, model = Keeper(sizes, pages), KeeperModel(sizes, pages)
            for (deed, number), told in walk(chance, keeper, keeper.room, 150):
                self.assertTrue(same(told, model.take(number) if deed == "take" else model.give(number)))
                self.assertEqual(keeper.free_pages(), model.free_pages())
                free = keeper.free_pages()
                if free and len(keeper.pages) > 1 and chance.randrange(2):
                    number = chance.choice(free)
                    self.assertIsNone(keeper.drop_page(number))
                    model.pages.remove(number)
                elif chance.randrange(3) == 0 and len(keeper.pages) < 5:
                    number = chance.choice([page for page in range(8) if page not in keeper.pages])
                    self.assertIsNone(keeper.put_page(number))
                    model.pages = sorted(model.pages + [number])
                self.assertEqual((keeper.pages, keeper.picture()), (tuple(model.pages), model.blocks))
                self.assertEqual((keeper.room(), keeper.kind()), (model.room(), model.kind()))

    def test_handles_with_block_between(self):
        keeper = Keeper(SIZES, (0, 1), ((3, 2, 0),), 9)
        keeper.take(2)
        self.assertEqual(keeper.picture(), with_block(SIZES, (0, 1), ((3, 2, 0),), (9, 2, 2)))


if __name__ == "__main__":
    unittest.main()
