"""Promises [40] to [42]: stores by choices, which never move blocks, or move them as their choices tell."""

import inspect
import random
import unittest

from tests.models import behind
from tests.rows import some_requests
from tests.test_sizes import WRONG_PAGES, WRONG_SIZES
from tests.values import ANY, NO_NUMBERS, NO_SEQUENCES, caught, same
from tests.worlds import free_row, free_set
from whatmovesbuy.errors import BadPages, BadSizes, NoBlock, NoRoom, Refused
from whatmovesbuy.moves import cost, moved
from whatmovesbuy.plain import Plain, Wild

WORLDS = (
    ((3,), (2, 5)), ((1, 2), (0, 4)), ((1, 4), (0, 1, 9)), ((2, 6), (1, 10 ** 31)), ((1, 2, 4), (0, 3, 4)),
    ((1, 2, 6), (0, 1)), ((1, 3, 6, 12), (1, 2)), ((1, 2, 4, 8), (0, 3)), ((1, 2, 4, 8, 16), (7,)), ((1, 2), ()),
)
NO_CHOICES = NO_SEQUENCES + ((-1,), (0, True), [0, None], (1, 2, -3), ((0,),), ["1"], (0, ()), (1, False))


class Refusal(Exception):
    """A model refuses."""


class Model:
    """A store by choices, counted by cells; it moves nothing if cells is None."""

    def __init__(self, sizes, pages, cells, choices):
        self.sizes, self.pages, self.cells, self.choices = sizes, pages, cells, list(choices)
        self.blocks, self.handle = (), 0

    def free(self, size):
        """The places of the free units of a size."""
        return free_row(self.sizes, self.pages, self.blocks, self.sizes.index(size))

    def room(self):
        """How many cells are free."""
        return len(free_set(self.sizes, self.pages, self.blocks))

    def moves(self):
        """The moves that the choices tell, made."""
        made, left = [], self.cells
        while self.cells is not None and self.choices:
            choice = self.choices.pop(0)
            rows = sorted((handle, place) for handle, size, _ in self.blocks if size <= left
                          for place in self.free(size))
            if choice == 0 or not rows:
                break
            move = rows[(choice - 1) % len(rows)]
            self.blocks, paid = behind(self.sizes, self.pages, self.blocks, (move,))
            left -= paid
            made.append(move)
        return tuple(made)

    def take(self, size):
        """As the stores' own; a refusal changes nothing."""
        kept = (self.blocks, list(self.choices))
        made = self.moves()
        places = self.free(size)
        if not places:
            self.blocks, self.choices = kept
            raise Refusal
        choice = self.choices.pop(0) if self.choices else 0
        self.blocks += ((self.handle, size, places[choice % len(places)]),)
        self.handle += 1
        return self.handle - 1, made

    def give(self, handle):
        """As the stores' own."""
        self.blocks = tuple(block for block in self.blocks if block[0] != handle)
        return self.moves()


def asked(case, chance, store, model, many):
    """Ask a store and its model for many things, also such as are refused; the moves of each request served."""
    held = {}
    for deed, number in some_requests(chance, model, model.room, many, held):
        ahead = store.picture()
        case.assertTrue(same(ahead, model.blocks))
        if chance.randrange(4) == 0:
            refuse_some(case, store)
        if deed == "take":
            try:
                told = model.take(number)
            except Refusal:
                case.assertEqual(caught(NoRoom, store.take, number).size, number)
                case.assertEqual(store.picture(), ahead)
                yield None
                continue
            case.assertTrue(same(store.take(number), told))
            case.assertEqual(moved(store.sizes, store.pages, ahead, told[1]), store.picture()[:-1])
            held[told[0]] = number
            yield number, cost(store.sizes, store.pages, ahead, told[1])
        else:
            told = model.give(number)
            case.assertTrue(same(store.give(number), told))
            ahead = tuple(block for block in ahead if block[0] != number)
            case.assertEqual(moved(store.sizes, store.pages, ahead, told), store.picture())
            del held[number]
            yield number, cost(store.sizes, store.pages, ahead, told)


def refuse_some(case, store):
    """Ask a store for what it refuses, which changes nothing."""
    told = store.picture()
    for value in (None, True, -1, "1", 10 ** 30, [1]):
        case.assertIs(caught(Refused, store.take, value).value, value)
        case.assertIs(caught(NoBlock, store.give, value).handle, value)
    case.assertEqual(store.picture(), told)


class PlainStores(unittest.TestCase):
    def test_as_the_model(self):
        chance = random.Random(1)
        refused = 0
        for sizes, pages in WORLDS:
            for many in (0, 10, 120):
                choices = [chance.randrange(chance.choice((2, 9, 10 ** 31))) for _ in range(many)]
                store = Plain(sizes, pages, choices)
                rows = list(asked(self, chance, store, Model(sizes, pages, None, choices), 100))
                refused += rows.count(None)
                self.assertTrue(same(store.choices, tuple(choices)))
        self.assertGreater(refused, 50)

    def test_places_by_choices(self):
        store = Plain((1, 2, 4), (1, 5), (9, 2, 10 ** 31 + 1, 0))
        self.assertEqual(store.take(1), (0, ()))        # 8 free: 9 is 1
        self.assertEqual(store.take(2), (1, ()))        # at 6, 20, 22: 2 is the last
        self.assertEqual(store.take(1), (2, ()))        # 5 free: 10 ** 31 + 1 is 1
        self.assertEqual(store.take(2), (3, ()))
        self.assertEqual(store.picture(), ((0, 1, 5), (1, 2, 22), (2, 1, 6), (3, 2, 20)))
        # none is left: 0 is read
        self.assertEqual((store.take(1), store.take(1)), ((4, ()), (5, ())))
        self.assertEqual(store.picture()[-2:], ((4, 1, 4), (5, 1, 7)))
        self.assertEqual(caught(NoRoom, store.take, 1).size, 1)

    def test_a_refusal_reads_no_choice(self):
        store = Plain((1, 2), (0, 1), (1, 2, 1, 1))
        self.assertEqual([store.take(1), store.take(1)], [(0, ()), (1, ())])
        self.assertEqual(store.picture(), ((0, 1, 1), (1, 1, 3)))
        for _ in range(3):
            self.assertEqual(caught(NoRoom, store.take, 2).size, 2)
            self.assertEqual(caught(Refused, store.take, 3).value, 3)
            self.assertEqual(caught(NoBlock, store.give, 2).handle, 2)
        self.assertEqual(store.take(1), (2, ()))
        self.assertEqual(store.picture()[-1], (2, 1, 2))

    def test_each_row_of_places_comes(self):
        chance = random.Random(2)
        for sizes, pages in WORLDS:
            for _ in range(5):
                model, choices, requests, held = Model(sizes, pages, None, ()), [], [], {}
                for deed, number in some_requests(chance, model, model.room, 50, held):
                    requests.append((deed, number))
                    if deed == "give":
                        model.give(number)
                        del held[number]
                        continue
                    places = model.free(number)
                    if not places:
                        requests.pop()
                        continue
                    place = chance.choice(places)
                    choices.append(places.index(place) + len(places) * chance.randrange(3))
                    model.blocks += ((model.handle, number, place),)
                    held[model.handle] = number
                    model.handle += 1
                store = Plain(sizes, pages, choices)
                for deed, number in requests:
                    self.assertEqual(store.take(number)[1] if deed == "take" else store.give(number), ())
                self.assertEqual(store.picture(), model.blocks)

    def test_handles(self):
        store = Plain(choices=[1, 1], pages=[0, 1], sizes=[1, 2])
        self.assertTrue(same((store.sizes, store.pages, store.choices), ((1, 2), (0, 1), (1, 1))))
        self.assertTrue(same(store.picture(), ()))
        self.assertTrue(same([store.take(size=1), store.take(2), store.give(handle=0)], [(0, ()), (1, ()), ()]))
        self.assertEqual(caught(NoBlock, store.give, 0).handle, 0)
        self.assertEqual(store.take(1), (2, ()))
        self.assertTrue(same(store.picture(), ((1, 2, 2), (2, 1, 0))))
        for value in NO_NUMBERS + (0, 3, 10 ** 31, "2"):
            self.assertIs(caught(NoBlock, store.give, value).handle, value)
        self.assertEqual(store.give(2), ())

    def test_sizes_that_are_none(self):
        for pages in ((0, 1), ()):
            store = Plain((1, 2, 6), pages, (5,))
            for value in NO_NUMBERS + (0, 3, 4, 12):
                self.assertIs(caught(Refused, store.take, value).value, value)
            for value in ANY:
                if isinstance(value, bool) or value != 1:
                    self.assertIs(caught(Refused, store.take, value).value, value)
            self.assertEqual(store.picture(), ())

    def test_which_fault_is_told(self):
        for value, at in WRONG_SIZES + tuple((value, -1) for value in NO_SEQUENCES):
            self.assertEqual(caught(BadSizes, Plain, value, None, None).at, at)
            self.assertEqual(caught(BadSizes, Wild, value, None, None, None).at, at)
        for value, at in WRONG_PAGES + tuple((value, -1) for value in NO_SEQUENCES):
            self.assertEqual(caught(BadPages, Plain, (1,), value, None).at, at)
            self.assertEqual(caught(BadPages, Wild, (1,), value, None, None).at, at)
        for value in NO_CHOICES:
            self.assertIs(caught(Refused, Plain, (1,), (0,), value).value, value)
            self.assertIs(caught(Refused, Wild, (1,), (0,), 3, value).value, value)
        for value in NO_NUMBERS:
            self.assertIs(caught(Refused, Wild, (1,), (0,), value, None).value, value)

    def test_choices_stay(self):
        choices = [1, 3]
        plain, wild = Plain((1, 2), (0, 1), choices), Wild((1, 2), (0, 1), 0, choices)
        choices.clear()
        plain.take(1)
        self.assertEqual((plain.choices, wild.choices), ((1, 3), (1, 3)))
        self.assertEqual(plain.picture(), ((0, 1, 1),))

    def test_parameters(self):
        self.assertEqual(list(inspect.signature(Plain).parameters), ["sizes", "pages", "choices"])
        self.assertEqual(list(inspect.signature(Wild).parameters), ["sizes", "pages", "cells", "choices"])


class WildStores(unittest.TestCase):
    def test_as_the_model(self):
        chance = random.Random(3)
        refused, paid = 0, set()
        for sizes, pages in WORLDS:
            for cells in (0, 1, sizes[-1], 2 * sizes[-1] + 1, 10 ** 31):
                choices = [chance.choice((0, 1, 2, 3, 5, 10 ** 31)) for _ in range(250)]
                store = Wild(sizes, pages, cells, choices)
                rows = list(asked(self, chance, store, Model(sizes, pages, cells, choices), 60))
                refused += rows.count(None)
                told = max([cost for row in rows if row for cost in row[1:]] + [0])
                self.assertLessEqual(told, cells)
                paid.add(told)
        self.assertGreater(refused, 20)
        self.assertGreater(len(paid), 5)

    def test_without_cells_as_plain(self):
        # each request reads one choice more, which moves nothing
        wild, plain = Wild((1, 2), (0, 1), 0, (7, 3, 7, 1, 7, 7, 0)), Plain((1, 2), (0, 1), (3, 1, 0))
        for size in (1, 1):
            self.assertEqual(wild.take(size), plain.take(size))
        self.assertEqual((wild.give(0), plain.give(0)), ((), ()))
        self.assertEqual((wild.take(2), plain.take(2)), ((2, ()), (2, ())))
        self.assertEqual(wild.picture(), plain.picture())
        self.assertEqual(Wild((1, 2), (0,), 5).take(2), (0, ()))

    def test_which_move(self):
        # blocks 0 of 1 at 0, 1 of 2 at 2: behind each choice the move of all that are possible
        rows = ((0, 1), (0, 4), (0, 5), (0, 6), (0, 7), (1, 4), (1, 6))
        for choice in range(1, 16):
            store = Wild((1, 2, 4), (0, 1), 2, (0, 0, 0, 0, 0, 0, choice))
            self.assertEqual([store.take(size) for size in (1, 2, 4)], [(0, ()), (1, ()), (2, ())])
            told = store.give(2)
            self.assertEqual(told, (rows[(choice - 1) % 7],))
        # just as many cells as may still be moved
        for choice in range(1, 16):
            store = Wild((1, 2, 4), (0, 1), 1, (0, 0, 0, 0, 0, 0, choice))
            self.assertEqual([store.take(size) for size in (1, 2, 4)], [(0, ()), (1, ()), (2, ())])
            self.assertEqual(store.give(2), (rows[(choice - 1) % 5],))

    def test_several_moves(self):
        store = Wild((1, 2), (0, 1), 3, (0, 0, 0, 0, 2, 1, 3, 9, 4))
        store.take(1)
        store.take(1)
        self.assertEqual(store.picture(), ((0, 1, 0), (1, 1, 1)))
        # 2: block 0 to 3; 1: block 0 to 0 again; 3: block 1 to 2; nothing is left: 9 is read, and no more is moved
        self.assertEqual(store.take(1), (2, ((0, 3), (0, 0), (1, 2))))
        # 4 was read for the place: the free ones are 1 and 3
        self.assertEqual(store.picture(), ((0, 1, 0), (1, 1, 2), (2, 1, 1)))
        self.assertEqual(store.give(0), ())

    def test_0_ends_the_moves(self):
        store = Wild((1,), (0, 1, 2), 9, (0, 0, 1, 0, 1, 5))
        store.take(1)
        self.assertEqual(store.take(1), (1, ((0, 1),)))
        self.assertEqual(store.picture(), ((0, 1, 1), (1, 1, 2)))
        # behind giving back: 5 tells the last move; no choice is left then
        self.assertEqual(store.give(1), ((0, 0),))
        self.assertEqual(store.give(0), ())

    def test_a_taking_that_is_refused_moves_nothing(self):
        sizes, pages = (1, 2), (0, 1)
        store = Wild(sizes, pages, 1, (0, 0, 0, 2, 3, 0, 1))
        self.assertEqual([store.take(1), store.take(1)], [(0, ()), (1, ())])
        self.assertEqual(store.picture(), ((0, 1, 0), (1, 1, 3)))
        # the choice 3 would bring block 1 to 1; but for that there would be no room
        self.assertEqual(store.take(2), (2, ((1, 1),)))
        store = Wild(sizes, pages, 1, (0, 0, 0, 2, 1, 0, 1))
        self.assertEqual([store.take(1), store.take(1)], [(0, ()), (1, ())])
        for _ in range(3):
            self.assertEqual(caught(NoRoom, store.take, 2).size, 2)
            self.assertEqual(store.picture(), ((0, 1, 0), (1, 1, 3)))
        # the same choices are read by the next one that is served
        self.assertEqual(store.take(1), (2, ((0, 1),)))
        self.assertEqual(store.picture(), ((0, 1, 1), (1, 1, 3), (2, 1, 2)))

    def test_several_moves_are_undone(self):
        store = Wild((1, 2, 4), (0, 1), 9, (0, 0, 0, 2, 0, 2, 3, 8, 1, 2, 0, 1))
        self.assertEqual([store.take(size) for size in (1, 1, 2)], [(0, ()), (1, ()), (2, ())])
        told = store.picture()
        self.assertEqual(caught(NoRoom, store.take, 4).size, 4)
        self.assertEqual(store.picture(), told)
        model = Model((1, 2, 4), (0, 1), 9, (3, 8, 1, 2, 0, 1))
        model.blocks, model.handle = told, 3
        self.assertEqual(store.take(1), model.take(1))
        self.assertEqual(store.picture(), model.blocks)

    def test_each_row_of_moves_comes(self):
        chance = random.Random(4)
        for sizes, pages in WORLDS[:-1]:
            cells = sizes[-1] + 1
            model, choices, requests = Model(sizes, pages, None, ()), [], []
            for _ in range(25):
                giving = model.blocks and chance.randrange(2)
                if giving:
                    handle = chance.choice(model.blocks)[0]
                    model.blocks = tuple(block for block in model.blocks if block[0] != handle)
                kept, made, left = model.blocks, [], cells
                picks = []
                while chance.randrange(3):
                    rows = sorted((handle, place) for handle, size, _ in model.blocks if size <= left
                                  for place in model.free(size))
                    if not rows:
                        break
                    move = chance.choice(rows)
                    picks.append(rows.index(move) + 1)
                    model.blocks, paid = behind(sizes, pages, model.blocks, (move,))
                    left -= paid
                    made.append(move)
                if giving:
                    requests.append(("give", handle, tuple(made)))
                    choices.extend(picks + [0])
                    continue
                size = chance.choice(sizes)
                places = model.free(size)
                if not places:
                    model.blocks = kept
                    continue
                place = chance.choice(places)
                choices.extend(picks + [0, places.index(place)])
                model.blocks += ((model.handle, size, place),)
                requests.append(("take", size, (model.handle, tuple(made))))
                model.handle += 1
            store = Wild(sizes, pages, cells, choices)
            for deed, number, told in requests:
                self.assertEqual((store.take if deed == "take" else store.give)(number), told)
            self.assertEqual(store.picture(), model.blocks)

    def test_attributes(self):
        store = Wild([1, 2], [0, 1], 7, [1, 2])
        self.assertTrue(same((store.sizes, store.pages, store.cells, store.choices), ((1, 2), (0, 1), 7, (1, 2))))
        store = Wild(choices=(), cells=10 ** 31, pages=(), sizes=(1,))
        self.assertTrue(same((store.picture(), store.cells, store.choices), ((), 10 ** 31, ())))
        self.assertEqual(caught(NoRoom, store.take, 1).size, 1)
        for value in NO_NUMBERS + (0, 2):
            self.assertIs(caught(Refused, store.take, value).value, value)
            self.assertIs(caught(NoBlock, store.give, value).handle, value)


if __name__ == "__main__":
    unittest.main()
