"""Promises [58] and [59]: a store whose pages come and go, as few as its cells need."""

import inspect
import random
import unittest
from fractions import Fraction
from math import ceil

from tests.models import kind_by_cells, put, serve
from tests.rows import walk
from tests.test_sizes import WRONG_SIZES
from tests.values import ANY, NO_NUMBERS, NO_SEQUENCES, caught, same
from tests.worlds import cells, free_set, held_set, torn_row
from whatmovesbuy.errors import BadSizes, NoBlock, NoRoom, Refused
from whatmovesbuy.keeper import least_moves
from whatmovesbuy.live import Live, pages_along, pages_for
from whatmovesbuy.moves import cost
from whatmovesbuy.pictures import check_picture, without

ALL_SIZES = ((3,), (1, 2), (1, 4), (2, 6), (1, 2, 4), (1, 2, 6), (1, 3, 6, 12), (1, 2, 4, 8), (2, 4, 12, 24),
             (1, 2, 4, 8, 16), (1, 4, 16, 64))


class Model:
    """A live store, by the words of the document: everything is counted in its picture."""

    def __init__(self, sizes):
        self.sizes, self.pages, self.blocks, self.next = sizes, (), (), 0

    def drop_free(self):
        """All free pages go."""
        held, span = held_set(self.blocks), self.sizes[-1]
        self.pages = tuple(page for page in self.pages if cells(page * span, span) & held)

    def take(self, size):
        """Serve all, let free pages go, let one come if need be, put."""
        _, moves, self.blocks = serve(self.sizes, self.pages, self.blocks, None)
        self.drop_free()
        if len(free_set(self.sizes, self.pages, self.blocks)) < size:
            number = min(set(range(len(self.pages) + 1)) - set(self.pages))
            self.pages = tuple(sorted(self.pages + (number,)))
        self.blocks = put(self.sizes, self.pages, self.blocks, self.next, size)
        self.next += 1
        return self.next - 1, moves

    def give(self, handle):
        """As the keeper's, then free pages go."""
        rest = without(self.sizes, self.pages, self.blocks, handle)
        _, moves, self.blocks = serve(self.sizes, self.pages, rest, least_moves(self.sizes))
        self.drop_free()
        return moves


def seen(live):
    """All that a live store tells without being changed."""
    return live.sizes, live.numbers(), live.in_use(), live.picture()


def room_of(live, most):
    """How many cells may still be taken if so many are to be held at most."""
    return lambda: most - live.in_use()


class PagesFor(unittest.TestCase):
    def test_told(self):
        for sizes, number, told in (((1, 2, 4), 0, 0), ((1, 2, 4), 1, 1), ((1, 2, 4), 4, 1), ((1, 2, 4), 5, 2), ((5,), 10, 2),
                                    ((5,), 11, 3), ((2, 6), 1, 1), ((1, 64), 4096, 64), ((1, 64), 4097, 65),
                                    ((1,), 10 ** 31, 10 ** 31), ((3, 6), 6 * 10 ** 30 + 1, 10 ** 30 + 1)):
            self.assertTrue(same(pages_for(sizes, number), told))
            self.assertTrue(same(pages_for(cells=number, sizes=list(sizes)), told))
        for sizes in ALL_SIZES:
            for number in range(200):
                self.assertEqual(pages_for(sizes, number), ceil(Fraction(number, sizes[-1])))

    def test_faults(self):
        for value, at in WRONG_SIZES + tuple((value, -1) for value in NO_SEQUENCES):
            self.assertEqual(caught(BadSizes, pages_for, value, None).at, at)
            self.assertEqual(caught(BadSizes, Live, value).at, at)
            self.assertEqual(caught(BadSizes, pages_along, value, None).at, at)
        for value in NO_NUMBERS:
            self.assertIs(caught(Refused, pages_for, (1, 2), value).value, value)


class LiveStores(unittest.TestCase):
    def test_as_the_model(self):
        chance = random.Random(1)
        for sizes in ALL_SIZES:
            live, model = Live(list(sizes)), Model(sizes)
            self.assertTrue(same(seen(live), (sizes, (), 0, ())))
            for (deed, number), told in walk(chance, live, room_of(live, 5 * sizes[-1] + 1), 150):
                self.assertTrue(same(told, model.take(number) if deed == "take" else model.give(number)))
                self.assertTrue(same(seen(live), (sizes, model.pages, len(held_set(model.blocks)), model.blocks)))
                self.assertEqual(check_picture(sizes, live.numbers(), live.picture()), live.picture())

    def test_as_few_pages_as_cells_need(self):
        one_more = {}
        for at, sizes in enumerate(ALL_SIZES):
            for seed in range(3):
                live, ahead = Live(sizes), ()
                most = (6 * sizes[-1], 2 * sizes[-1], 3 * sizes[-1] - 1)[seed]
                for (deed, number), told in walk(random.Random(at + 20 * seed), live, room_of(live, most), 500):
                    pages, picture = live.numbers(), live.picture()
                    self.assertEqual(live.in_use(), sum(size for _, size, _ in picture))
                    need = pages_for(sizes, live.in_use())
                    if deed == "take":
                        self.assertEqual(len(pages), need)
                        moves = told[1]
                    else:
                        self.assertEqual(len(pages), need + self.has_one_more(sizes, pages, picture))
                        one_more[sizes] = one_more.get(sizes, 0) + len(pages) - need
                        ahead, moves = tuple(block for block in ahead if block[0] != number), told
                    # nothing is moved to a page that comes; what stands where is told by pages that are great enough
                    everywhere = tuple(range(64))
                    self.assertLessEqual(cost(sizes, everywhere, ahead, moves), least_moves(sizes))
                    ahead = picture
        self.assertGreater(len([sizes for sizes, many in one_more.items() if many]), 3)
        for sizes in ALL_SIZES[:4]:
            self.assertEqual(one_more[sizes], 0)

    def has_one_more(self, sizes, pages, picture):
        """Whether a picture is of kind "page" and its two torn pages have a page's children free together."""
        if kind_by_cells(sizes, pages, picture) != "page":
            return False
        rows = torn_row(sizes, pages, picture, len(sizes) - 2)
        return len(rows) == 2 and sum(many for _, many in rows) == sizes[-1] // sizes[-2]

    def test_which_page_comes(self):
        live = Live((1, 2))
        self.assertEqual([live.take(2)[0] for _ in range(4)], [0, 1, 2, 3])
        self.assertTrue(same((live.numbers(), live.in_use()), ((0, 1, 2, 3), 8)))
        self.assertEqual(live.give(1), ())
        self.assertEqual(live.numbers(), (0, 2, 3))
        self.assertEqual(live.give(2), ())
        self.assertEqual((live.numbers(), live.in_use()), ((0, 3), 4))
        self.assertEqual(live.take(1), (4, ()))
        self.assertEqual((live.numbers(), live.picture()[-1]), ((0, 1, 3), (4, 1, 2)))
        # there is room: no page comes
        self.assertEqual(live.take(1), (5, ()))
        self.assertEqual(live.numbers(), (0, 1, 3))
        live.give(0)
        self.assertEqual(live.take(size=2), (6, ()))
        self.assertEqual((live.numbers(), live.picture()[-1]), ((0, 1, 3), (6, 2, 0)))
        for handle in (6, 4, 3):
            live.give(handle=handle)
        self.assertEqual((live.numbers(), live.picture()), ((1,), ((5, 1, 3),)))
        live.give(5)
        self.assertTrue(same(seen(live), ((1, 2), (), 0, ())))
        self.assertEqual(live.take(1), (7, ()))
        self.assertEqual(live.numbers(), (0,))

    def test_pages_that_come_free_by_serving(self):
        # what waits is served ahead of a taking; the page that comes free then goes, and comes again if need be
        live = Live((1, 2, 4))
        for size in (2, 1, 1, 2, 1, 1):
            live.take(size)
        for handle in (1, 3, 4):
            live.give(handle)
        self.assertEqual(live.numbers(), (0, 1))
        self.assertEqual(live.take(1), (6, ((0, 4),)))
        self.assertEqual((live.numbers(), live.picture()), ((1, 0)[::-1], ((0, 2, 4), (2, 1, 6), (5, 1, 7), (6, 1, 0))))
        live.give(6)
        self.assertEqual(live.numbers(), (1,))

    def test_the_64th_page(self):
        for sizes in ((4,), (1, 2), (1, 2, 4)):
            live, size = Live(sizes), sizes[0]
            for turn in range(64 * sizes[-1] // size):
                self.assertEqual(live.take(size), (turn, ()))
            self.assertTrue(same((live.numbers(), live.in_use()), (tuple(range(64)), 64 * sizes[-1])))
            told = seen(live)
            for one in sizes:
                self.assertEqual(caught(NoRoom, live.take, one).size, one)
            self.assertEqual(seen(live), told)
            live.give(7)
            for one in sizes[1:]:
                self.assertEqual(caught(NoRoom, live.take, one).size, one)
            self.assertEqual(live.take(size)[0], told[3][-1][0] + 1)
            self.assertEqual(live.in_use(), 64 * sizes[-1])
            self.assertEqual(caught(NoRoom, live.take, size).size, size)

    def test_refusals(self):
        live = Live((1, 2, 6))
        for value in NO_NUMBERS + (0, 3, 7, 12, 10 ** 31, "1"):
            self.assertIs(caught(Refused, live.take, value).value, value)
        for value in ANY:
            self.assertIs(caught(NoBlock, live.give, value).handle, value)
        self.assertTrue(same(seen(live), ((1, 2, 6), (), 0, ())))
        live.take(6), live.take(1), live.take(1), live.give(1)
        told = seen(live)
        for value in NO_NUMBERS + (0, 3, 7, 12, 10 ** 31, "1"):
            self.assertIs(caught(Refused, live.take, value).value, value)
        for value in NO_NUMBERS + (1, 3, 10 ** 31, "0"):
            self.assertIs(caught(NoBlock, live.give, value).handle, value)
        self.assertEqual(seen(live), told)
        self.assertEqual(list(inspect.signature(Live).parameters), ["sizes"])

    def test_a_refusal_serves_nothing(self):
        # something waits, and more than 64 pages would be needed: nothing is moved
        sizes = (1, 2, 6)
        live = Live(sizes)
        for size in (1,) * 6 + (2,) * 3 + (6,) * 62:
            live.take(size)
        self.assertEqual([live.give(handle) for handle in (6, 0, 2)], [(), (), ((1, 2),)])
        told = seen(live)
        waiting = serve(sizes, live.numbers(), live.picture(), None)[1]
        self.assertEqual(len(waiting), 2)
        self.assertEqual(caught(NoRoom, live.take, 6).size, 6)
        self.assertEqual(seen(live), told)
        self.assertEqual(live.take(2)[1], waiting)


class PagesAlong(unittest.TestCase):
    def test_as_a_store_that_is_asked(self):
        for seed, sizes in enumerate(ALL_SIZES):
            live, row, told = Live(sizes), [], []
            for request, _ in walk(random.Random(seed), live, room_of(live, 4 * sizes[-1]), 120):
                row.append(request)
                told.append(len(live.numbers()))
            self.assertTrue(same(pages_along(sizes, row), tuple(told)))
            self.assertEqual(pages_along(requests=tuple(map(list, row)), sizes=list(sizes)), tuple(told))
            self.assertEqual(pages_along(sizes, row[:7]), tuple(told[:7]))
        self.assertTrue(same(pages_along((1, 2), ()), ()))

    def test_refusals(self):
        for value in NO_SEQUENCES:
            self.assertIs(caught(Refused, pages_along, (1, 2), value).value, value)
        for item in ANY[:-2] + (("take", 3), ("give", -1), ("put", 1), ("take", 1, 1), ("take", True)):
            if same(item, ("take", 1)) or same(item, ["give", 0]):
                continue
            for row in (("take", 1), item), [("give", 9), item]:
                self.assertIs(caught(Refused, pages_along, (1, 2), row).value, row)
        self.assertEqual(caught(NoBlock, pages_along, (1, 2), (("take", 1), ("give", 1), ("give", 0))).handle, 1)
        self.assertEqual(caught(NoBlock, pages_along, (1, 2), (("give", 0),)).handle, 0)
        row = (("take", 2),) * 64
        self.assertEqual(pages_along((1, 2), row), tuple(range(1, 65)))
        self.assertEqual(caught(NoRoom, pages_along, (1, 2), row + (("take", 1), ("give", 99))).size, 1)


if __name__ == "__main__":
    unittest.main()
