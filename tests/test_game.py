"""Promises [60] to [62], and [46]: small worlds by force, and what is told for all sizes."""

import inspect
import time
import unittest
from fractions import Fraction
from heapq import heappop, heappush
from math import ceil

from tests.test_sizes import WRONG_PAGES, WRONG_SIZES
from tests.values import ANY, NO_NUMBERS, NO_SEQUENCES, caught
from whatmovesbuy.errors import BadPages, BadSizes, Refused
from whatmovesbuy.game import keeps
from whatmovesbuy.meaning import above, full_amount

WHENS = ("request", "giving", "taking")


class Search:
    """A plain search: a picture is the set of its blocks (size, place), and nothing is told alike."""

    def __init__(self, sizes, pages, cells, moves, when):
        self.sizes, self.cells, self.moves, self.when = sizes, min(cells, len(pages) * sizes[-1]), moves, when
        self.spots = [(size, place) for size in sizes for page in pages
                      for place in range(page * sizes[-1], (page + 1) * sizes[-1], size)]
        self.reached = {}

    def puts(self, picture, size):
        """The pictures with one block of this size more."""
        held = {cell for many, place in picture for cell in range(place, place + many)}
        return [picture | {(many, place)} for many, place in self.spots
                if many == size and held.isdisjoint(range(place, place + many))]

    def reach(self, picture):
        """All pictures that moves lead to, by the cheapest ways."""
        if picture not in self.reached:
            paid, rest, at = {picture: 0}, [(0, 0, picture)], 0
            while rest:
                spent, _, now = heappop(rest)
                for block in now:
                    for then in self.puts(now - {block}, block[0]):
                        if spent + block[0] <= self.moves and paid.get(then, 10 ** 9) > spent + block[0]:
                            paid[then] = spent + block[0]
                            at += 1
                            heappush(rest, (paid[then], at, then))
            self.reached[picture] = tuple(paid)
        return self.reached[picture]

    def answers(self, picture):
        """By request all pictures that it can lead to."""
        for size in self.sizes:
            if sum(many for many, _ in picture) + size <= self.cells:
                ahead = [picture] if self.when == "giving" else self.reach(picture)
                yield [then for now in ahead for then in self.puts(now, size)]
        for block in picture:
            rest = picture - {block}
            yield [rest] if self.when == "taking" else self.reach(rest)

    def keeps(self):
        """Whether the empty picture isn't lost."""
        found, rest = {frozenset(): None}, [frozenset()]
        for picture in rest:
            found[picture] = list(map(tuple, self.answers(picture)))
            for then in {then for row in found[picture] for then in row}:
                if then not in found:
                    found[then] = None
                    rest.append(then)
        lost, many = set(), -1
        while len(lost) > many:
            many = len(lost)
            lost |= {picture for picture, rows in found.items() if any(lost.issuperset(row) for row in rows)}
        return frozenset() not in lost


class ByForce(unittest.TestCase):
    def check(self, sizes, pages, amounts, mosts, whens=WHENS):
        """Compare with the plain search; how often it was told True and False."""
        told = []
        for cells in amounts:
            for moves in mosts:
                for when in whens:
                    told.append(keeps(sizes, pages, cells, moves, when))
                    self.assertIs(told[-1], Search(sizes, pages, cells, moves, when).keeps(), (sizes, cells, moves, when))
        return told.count(True), told.count(False)

    def test_two_sizes(self):
        told = [self.check((1, 2), (0, 1), range(6), range(4)), self.check((1, 2), (0, 3), (4,), (0, 1)),
                self.check((1, 3), (0, 1), range(7), range(4)), self.check((2, 4), (0, 1), range(9), (0, 1, 2, 3, 4)),
                self.check((1, 4), (0, 1), (5, 7, 8), (0, 1, 2, 3), ("taking",)), self.check((1, 2), (0, 1, 2), range(7), range(3)),
                self.check((2, 6), (5,), (4, 6), (0, 2))]
        self.assertGreater(min(sum(row[0] for row in told), sum(row[1] for row in told)), 20)

    def test_one_size(self):
        for sizes, pages in (((1,), (0,)), ((1,), (0, 1, 2, 3)), ((3,), (0, 7))):
            self.assertEqual(self.check(sizes, pages, range(len(pages) * sizes[0] + 2), (0, 1, 5))[1], 0)

    def test_three_sizes(self):
        told = [self.check((1, 2, 4), (0,), range(5), range(3)), self.check((1, 2, 6), (1,), (4, 5, 6), (0, 1, 2)),
                self.check((1, 3, 6), (0,), (3, 5, 6), (0, 1, 3)), self.check((1, 2, 4), (0, 1), (5, 6), (0, 1)),
                self.check((1, 2, 4), (0, 1), (8,), (1, 2), ("request", "giving"))]
        self.assertGreater(min(sum(row[0] for row in told), sum(row[1] for row in told)), 15)

    def test_four_sizes(self):
        told = self.check((1, 2, 4, 8), (0,), (8,), (0, 1, 2), ("request",))
        self.assertEqual(told, (1, 2))

    def test_told(self):
        self.assertIs(keeps((1, 2), (0, 1), 4, 1, "request"), True)
        self.assertIs(keeps((1, 2), (0, 1), 4, 0, "request"), False)
        self.assertIs(keeps((1, 2), (0, 1), 3, 0, "request"), True)
        self.assertIs(keeps((1, 2), (0, 1), 5, 0, "request"), False)
        self.assertIs(keeps((1, 2), (0, 1), 5, 1, "request"), True)
        self.assertIs(keeps((1, 2), (5,), 2, 0, "taking"), True)
        self.assertIs(keeps(when="giving", moves=1, cells=4, pages=[0, 1], sizes=[1, 2]), True)

    def test_cells_that_are_no_multiple(self):
        for sizes, pages in (((2, 4), (0, 1)), ((2, 6), (0, 1)), ((3, 6), (0, 1)), ((4,), (0, 1, 2)), ((2, 4, 12), (0,))):
            for when in WHENS:
                for moves in range(4):
                    for cells in range(13):
                        told = keeps(sizes, pages, cells, moves, when)
                        self.assertIs(told, keeps(sizes, pages, cells - cells % sizes[0], moves, when))
                        self.assertIs(told, keeps(sizes, pages, cells, moves - moves % sizes[0], when))

    def test_more_cells_than_there_are(self):
        for sizes, pages in (((1, 2), (0, 1)), ((1, 2, 4), (0, 1)), ((1, 4), (0, 1, 2)), ((2, 4), (3, 4)), ((1,), (5,))):
            most = len(pages) * sizes[-1]
            for when in WHENS:
                for moves in (0, 1, 2, 3, 10 ** 31):
                    told = keeps(sizes, pages, most, moves, when)
                    for cells in (most + 1, most + sizes[-1], 10 ** 31):
                        self.assertIs(keeps(sizes, pages, cells, moves, when), told)

    def test_page_numbers_do_not_matter(self):
        for sizes, many in (((1, 2), 2), ((1, 2, 4), 2), ((1, 3), 4), ((5,), 2)):
            for when in WHENS:
                for moves in range(3):
                    told = keeps(sizes, tuple(range(many)), many * sizes[-1], moves, when)
                    for first in (1, 7, 10 ** 31 - 100):
                        pages = [first + 9 * at for at in range(many)]
                        self.assertIs(keeps(sizes, pages, many * sizes[-1], moves, when), told)

    def test_some_times_as_great(self):
        for sizes, many in (((1, 2), 2), ((1, 3), 2), ((1, 2, 4), 1), ((1, 2), 3), ((1, 4), 1)):
            for when in WHENS:
                for moves in range(3):
                    for cells in range(1, many * sizes[-1] + 1):
                        told = keeps(sizes, tuple(range(many)), cells, moves, when)
                        for times in range(2, 12 // (many * sizes[-1]) + 1):
                            great = [size * times for size in sizes]
                            self.assertIs(keeps(great, tuple(range(many)), cells * times, moves * times, when), told)


class Faults(unittest.TestCase):
    def test_sizes_and_pages(self):
        for value, at in WRONG_SIZES + tuple((value, -1) for value in NO_SEQUENCES):
            self.assertEqual(caught(BadSizes, keeps, value, None, None, None, None).at, at)
        for value, at in WRONG_PAGES + tuple((value, -1) for value in NO_SEQUENCES):
            self.assertEqual(caught(BadPages, keeps, (1, 2), value, None, None, None).at, at)

    def test_no_pages_or_too_many_cells(self):
        for sizes, pages in (((1,), ()), ((1, 2), []), ((1,), tuple(range(13))), ((1, 2), list(range(7))), ((13,), (0,)),
                             ((1, 2, 4), (0, 1, 2, 3)), ((64,), (5,)), ((1, 6), (0, 1, 2)), ((5,), (0, 1, 2))):
            self.assertIs(caught(Refused, keeps, sizes, pages, None, None, None).value, pages)
            self.assertIs(caught(Refused, keeps, sizes, pages, 0, 0, "request").value, pages)
        for sizes, pages in (((1,), tuple(range(12))), ((12,), (0,)), ((1, 2), range(6)), ((6,), (0, 1)), ((1, 12), (3,))):
            self.assertIs(keeps(sizes, tuple(pages), 12, 12, "request"), True)

    def test_then_cells_moves_and_when(self):
        for value in NO_NUMBERS:
            self.assertIs(caught(Refused, keeps, (1, 2), (0, 1), value, None, None).value, value)
            self.assertIs(caught(Refused, keeps, (1, 2), (0, 1), 4, value, "never").value, value)
        for value in ANY + ("", "Request", "take", "request ", ("request",), ["giving"]):
            self.assertIs(caught(Refused, keeps, (1, 2), (0, 1), 4, 1, value).value, value)
        self.assertEqual(list(inspect.signature(keeps).parameters), ["sizes", "pages", "cells", "moves", "when"])


def told_sizes(most):
    """All sizes up to so many cells, from 1 on."""
    found = [(1,)]
    for sizes in found:
        found += [sizes + (size,) for size in range(2 * sizes[-1], most + 1, sizes[-1])]
    return found


class ForAllSizes(unittest.TestCase):
    def test_full_use(self):
        # [62], with all cells: from two pages on, and by full_amount also of one
        tried = 0
        for sizes in told_sizes(12):
            for many in range(1, 12 // sizes[-1] + 1):
                m, cells, pages = len(sizes) - 1, many * sizes[-1], tuple(range(many))
                needs = {}
                if many > 1:
                    needs["request"] = sizes[-2] if m else 0
                    if many > m:
                        needs["giving"] = sum(sizes[:-1])
                if m == 1:
                    needs["taking"] = sizes[1] - sizes[0] * ceil(Fraction(sizes[1], sizes[0] * many))
                for when, need in needs.items():
                    self.assertEqual(full_amount(sizes, pages, when), need)
                for when in WHENS:
                    need = full_amount(sizes, pages, when)
                    if need is not None:
                        for moves in {0, need - 1, need, need + 1} - {-1}:
                            self.assertIs(keeps(sizes, pages, cells, moves, when), moves >= need, (sizes, many, moves))
                            tried += 1
        self.assertGreater(tried, 200)

    def test_the_reduction(self):
        # [46]: cells by moves of K, against the sizes above K without moves
        tried, seen = 0, set()
        for sizes in told_sizes(12):
            for many in range(1, 12 // sizes[-1] + 1):
                for level in range(len(sizes) - 1):
                    for moves in {sizes[level], sizes[level + 1] - 1}:
                        self.assertEqual(above(sizes, moves), sizes[level + 1:])
                        for cells in range(0, many * sizes[-1] + 1, sizes[level + 1]):
                            told = keeps(sizes, tuple(range(many)), cells, moves, "request")
                            self.assertIs(keeps(above(sizes, moves), tuple(range(many)), cells, 0, "request"), told)
                            seen.add(told)
                            tried += 1
        self.assertGreater(tried, 300)
        self.assertEqual(seen, {False, True})

    def test_soon(self):
        for sizes, many, most in (((1, 2, 4), 3, 4), ((1, 2, 4, 12), 1, 4), ((1, 3), 3, 1), ((1, 3, 9), 1, 1), ((1,), 12, 4)):
            for when in WHENS:
                for moves in (0, 3, 10 ** 31):
                    begin = time.perf_counter()
                    keeps(sizes, tuple(range(many)), 12, moves, when)
                    self.assertLess(time.perf_counter() - begin, most)


if __name__ == "__main__":
    unittest.main()
