"""Promises [66] to [68]: amounts, what counts, verdicts, and the main theorem."""

import inspect
import random
import unittest
from fractions import Fraction
from math import ceil

from tests.models import behind
from tests.rows import walk
from tests.test_lazy import Mover as TakingMover
from tests.test_eager import Mover as GivingMover
from tests.test_sizes import WRONG_PAGES, WRONG_SIZES
from tests.values import ANY, NO_NUMBERS, NO_SEQUENCES, caught, same
from whatmovesbuy.eager import Eager, eager_beaten, eager_need
from whatmovesbuy.errors import BadPages, BadSizes, Refused
from whatmovesbuy.foe import beaten, foe_many
from whatmovesbuy.judges import follow, judged
from whatmovesbuy.keeper import Keeper, least_moves
from whatmovesbuy.lazy import Lazy, lazy_beaten, lazy_bounds
from whatmovesbuy.meaning import above, full_amount, verdict
from whatmovesbuy.plain import Plain, Wild

WHENS = ("request", "giving", "taking")
WORLDS = (
    ((1, 2), (0, 4)), ((1, 4), (0, 1, 9)), ((2, 6), (1, 10 ** 31)), ((1, 2, 4), (0, 3)), ((1, 2, 6), (0, 1, 5)),
    ((1, 3, 6, 12), (1, 2)), ((1, 2, 4, 8, 16), (0, 1, 5)), ((1, 2, 6), (7,)), ((1, 2, 4, 8), (10 ** 31,)),
    ((3, 6, 12), (0,)), ((1, 2), (3,)), ((5,), (0, 1)), ((7,), (0,)),
)


def counted(sizes, pages):
    """The sizes that count, and how many units of the greatest of them."""
    if len(pages) == 1 and len(sizes) > 1:
        return sizes[:-1], sizes[-1] // sizes[-2]
    return sizes, len(pages)


def amount_of(sizes, pages, when):
    """The amount, word by word as the document tells it."""
    here, many = counted(sizes, pages)
    m = len(here) - 1
    if m == 0:
        return 0
    if when == "request":
        return here[m - 1]
    if when == "giving":
        return sum(here[:m]) if many >= m + 1 else None
    return here[1] - here[0] * ceil(Fraction(here[1], here[0] * many)) if m == 1 else None


def some_sizes():
    """Many sizes."""
    found = [(one,) for one in (1, 2, 3, 5, 64)]
    for sizes in found:
        for times in (2, 3, 4, 5, 8):
            if sizes[-1] * times <= 64 and len(sizes) < 5:
                found.append(sizes + (sizes[-1] * times,))
    return found


class Amounts(unittest.TestCase):
    def test_counted(self):
        for sizes in some_sizes()[::3]:
            for many in (1, 2, 3, 4, 5, 6, 64):
                pages = tuple(range(3, 3 + many))
                for when in WHENS:
                    self.assertTrue(same(full_amount(sizes, pages, when), amount_of(sizes, pages, when)))

    def test_told(self):
        told = {((1, 2, 6), (0, 1)): (2, None, None), ((1, 2, 6), (4,)): (1, 1, 1), ((1, 2), (0,)): (0, 0, 0),
                ((5,), (0,)): (0, 0, 0), ((5,), (0, 1, 2)): (0, 0, 0), ((1, 64), (0, 1)): (1, 1, 32),
                ((1, 64), tuple(range(64))): (1, 1, 63), ((2, 10), (0, 1, 2)): (2, 2, 6), ((1, 2, 4, 8), (9,)): (2, None, None),
                ((1, 2, 4, 12), (9,)): (2, 3, None), ((1, 2, 4, 8, 16), (0, 1, 2, 3, 4)): (8, 15, None),
                ((1, 2, 4, 8, 16), (0, 1, 2, 3)): (8, None, None), ((3, 6), (0, 10 ** 31)): (3, 3, 3),
                ((1, 3, 6, 12), (0, 1, 2, 3)): (6, 10, None)}
        for (sizes, pages), row in told.items():
            for when, amount in zip(WHENS, row):
                self.assertTrue(same(full_amount(sizes, pages, when), amount), (sizes, pages, when))
                self.assertEqual(full_amount(when=when, pages=list(pages), sizes=list(sizes)), amount)

    def test_as_the_stores_tell(self):
        for sizes, pages in WORLDS:
            if len(pages) > 1:
                self.assertEqual(full_amount(sizes, pages, "request"), least_moves(sizes))
                if len(pages) >= len(sizes):
                    self.assertEqual(full_amount(sizes, pages, "giving"), eager_need(sizes))
            if full_amount(sizes, pages, "taking") is not None:
                self.assertEqual((full_amount(sizes, pages, "taking"),) * 2, lazy_bounds(sizes, pages))

    def test_which_fault_is_told(self):
        for call, rest in ((full_amount, (None,)), (verdict, (None,))):
            for value, at in WRONG_SIZES + tuple((value, -1) for value in NO_SEQUENCES):
                self.assertEqual(caught(BadSizes, call, value, None, *rest).at, at)
            for value, at in WRONG_PAGES + tuple((value, -1) for value in NO_SEQUENCES):
                self.assertEqual(caught(BadPages, call, (1,), value, *rest).at, at)
            for sizes in ((1,), (1, 2), (1, 2, 6)):
                for value in ((), []):
                    self.assertIs(caught(Refused, call, sizes, value, *rest).value, value)
        for sizes, pages in WORLDS:
            for value in ANY + ("", "requests", "take", ("giving",), ["request"]):
                self.assertIs(caught(Refused, full_amount, sizes, pages, value).value, value)
            for value in NO_NUMBERS:
                self.assertIs(caught(Refused, verdict, sizes, pages, value).value, value)
        for call, names in ((full_amount, ["sizes", "pages", "when"]), (verdict, ["sizes", "pages", "moves"]),
                            (above, ["sizes", "moves"])):
            self.assertEqual(list(inspect.signature(call).parameters), names)


class Above(unittest.TestCase):
    def test_told(self):
        for sizes in ((1,), (1, 2, 6), (3, 6, 12, 24), (1, 2, 4, 8, 64)):
            for moves in tuple(range(66)) + (10 ** 31,):
                self.assertTrue(same(above(sizes, moves), tuple(size for size in sizes if size > moves)))
        self.assertEqual(above([1, 2, 6], 0), (1, 2, 6))
        self.assertEqual(above(moves=2, sizes=[1, 2, 6]), (6,))
        self.assertEqual(above((1, 2, 6), 6), ())

    def test_faults(self):
        for value, at in WRONG_SIZES + tuple((value, -1) for value in NO_SEQUENCES):
            self.assertEqual(caught(BadSizes, above, value, None).at, at)
        for value in NO_NUMBERS:
            self.assertIs(caught(Refused, above, (1, 2), value).value, value)


class Verdicts(unittest.TestCase):
    def test_next_to_the_amount(self):
        for sizes, pages in WORLDS:
            amount = amount_of(sizes, pages, "request")
            for moves in (amount, amount + 1, 10 ** 31):
                self.assertTrue(same(verdict(sizes, pages, moves), ("full", amount)))
            self.assertEqual(verdict(moves=amount, pages=list(pages), sizes=list(sizes)), ("full", amount))
            for moves in {0, amount // 2, amount - 1} - {-1}:
                if moves < amount:
                    told = ("beaten", amount, foe_many(sizes, pages))
                    self.assertTrue(same(verdict(sizes, pages, moves), told))

    def test_how_many_requests(self):
        for sizes, pages, many in (((1, 2), (0, 1), 7), ((1, 2, 6), (0, 1), 10), ((1, 2, 6), (0,), 9),
                                   ((1, 64), tuple(range(64)), 64 * 64 + 65), ((1, 2, 4, 8, 16), (0, 1, 5), 9)):
            self.assertEqual(verdict(sizes, pages, 0)[2], many)


class MainTheorem(unittest.TestCase):
    def test_enough(self):
        # a keeper is refused nothing, and moves no more than the amount: of one page that of its units
        for seed, (sizes, pages) in enumerate(WORLDS):
            amount = full_amount(sizes, pages, "request")
            if len(pages) == 1 and len(sizes) > 1:
                sizes, pages = sizes[:-1], tuple(range(pages[0] * sizes[-1] // sizes[-2],
                                                       (pages[0] + 1) * sizes[-1] // sizes[-2]))
            keeper, asked, most = Keeper(sizes, pages), [], 0
            for request, _ in walk(random.Random(seed), keeper, keeper.room, 400):
                asked.append(request)
                most = max(most, len(pages) * sizes[-1] - keeper.room())
            self.assertEqual(most, len(pages) * sizes[-1])
            told = judged(sizes, pages, most, (amount, amount), follow(Keeper(sizes, pages), asked))
            self.assertEqual(told[0], "kept")
            if len(sizes) > 1:
                self.assertIsNone(beaten(Keeper(sizes, pages)))

    def test_less(self):
        # whoever moves less is beaten by the foe, within the told requests
        chance = random.Random(2)
        for sizes, pages in WORLDS:
            amount = full_amount(sizes, pages, "request")
            for moves in {0, amount // 2, amount - 1} - {-1}:
                if moves >= amount:
                    continue
                _, told, many = verdict(sizes, pages, moves)
                for seed in range(4):
                    choices = [chance.randrange(12) for _ in range(80)]
                    for store in (Wild(sizes, pages, moves, choices), Plain(sizes, pages, choices)):
                        loss = beaten(store)
                        self.assertEqual((loss[0], loss[1] + 1), ("refused", many))
                        self.assertLessEqual(loss[2], len(pages) * sizes[-1] - sum(block[1] for block in loss[3]))
                self.assertEqual(told, amount)

    def test_at_giving_back_and_at_taking(self):
        for sizes, pages in WORLDS:
            amount = full_amount(sizes, pages, "giving")
            if amount and len(pages) > 1:
                self.assertIsNone(eager_beaten(Eager(sizes, pages)))
                self.assertIsNone(eager_beaten(GivingMover(sizes, pages, amount)))
                self.assertEqual(eager_beaten(GivingMover(sizes, pages, amount - 1))[0], "refused")
            amount = full_amount(sizes, pages, "taking")
            if amount:
                self.assertIsNone(lazy_beaten(Lazy(sizes, pages)))
                self.assertIsNone(lazy_beaten(TakingMover(sizes, pages, amount)))
                self.assertEqual(lazy_beaten(TakingMover(sizes, pages, amount - 1))[0], "refused")

    def test_one_keeper_by_the_picture_alone(self):
        # made anew of its picture ahead of each request, it does the same
        sizes, pages = (1, 2, 4), (0, 1, 2)
        keeper = Keeper(sizes, pages)
        ahead = ((), 0)
        for (deed, number), told in walk(random.Random(9), keeper, keeper.room, 200):
            twin = Keeper(sizes, pages, *ahead)
            self.assertEqual(twin.take(number) if deed == "take" else twin.give(number), told)
            self.assertEqual(twin.picture(), keeper.picture())
            moves = told[1] if deed == "take" else told
            start = ahead[0] if deed == "take" else tuple(block for block in ahead[0] if block[0] != number)
            self.assertLessEqual(behind(sizes, pages, start, moves)[1], full_amount(sizes, pages, "request"))
            ahead = (keeper.picture(), keeper.taken)


if __name__ == "__main__":
    unittest.main()
