"""Promise [2], of all that takes pages: lists and tuples, names, the order in which arguments are looked at, no changes."""

import copy
import inspect
import unittest

from tests.test_sizes import WRONG_PAGES, WRONG_SIZES
from tests.values import ANY, NO_SEQUENCES, caught, same
from whatmovesbuy import gather, moves, pictures, serving, takes, units
from whatmovesbuy.errors import BadPages, BadPicture, BadSizes

SIZES, PAGES = (1, 2, 6), (0, 1, 4)
PICTURE = ((0, 1, 1), (3, 2, 8), (4, 2, 26), (10, 1, 29))
OTHER = ((0, 1, 1), (3, 2, 10), (4, 2, 26), (10, 1, 0))
# of each: what is passed behind the pages, and values that are wrong there
WITHOUT_PICTURE = {
    pictures.units: ((1,), (None,)), pictures.parent: ((1, 8), (9, 9)), pictures.children: ((1, 8), (9, 9)),
    pictures.is_within: (((1, 8), (2, 6)), (None, None)),
    pictures.picture_at: (((7, 1, 9, 1, 2, 5), 1), (None, None)),
    pictures.check_picture: ((PICTURE,), (None,)),
}
# of each: what is passed behind the picture, and values that are wrong there
WITH_PICTURE = {
    pictures.free_cells: ((), ()), pictures.held_cells: ((), ()), pictures.is_free: ((1, 8), (9, 9)),
    pictures.free_units: ((1,), (None,)), pictures.holes: ((), ()), pictures.block_of: ((4,), (None,)),
    pictures.blocks_in: ((2, 6), (9, 9)), pictures.with_block: (((7, 1, 0),), (None,)),
    pictures.without: ((3,), (None,)), pictures.picture_octets: ((), ()),
    units.free_children: ((2, 6), (9, 9)), units.torn_units: ((1,), (2,)), units.torn: ((0,), (None,)),
    units.loose_levels: ((), ()), units.is_smooth: ((), ()), units.loose_steps: ((0,), (-1,)),
    units.hole_counts: ((), ()), units.free_digits: ((), ()), units.kind: ((), ()),
    moves.trail: ((((0, 2), (3, 24)),), (None,)), moves.moved: ((((0, 2), (3, 24)),), (None,)),
    moves.cost: ((((0, 2), (3, 24)),), (None,)), moves.way_back: ((((0, 2), (3, 24)),), (None,)),
    moves.elsewhere: ((OTHER,), (None,)), moves.least_cost: ((OTHER,), (None,)),
    moves.unit_moves: ((1, 8, 24), (9, 9, 9)),
    takes.least_hole: ((2,), (None,)), takes.place_for: ((2,), (None,)), takes.taken: ((2, 12), (None, -1)),
    takes.all_taken: (((1, 2, 2),), (None,)), takes.is_ready: ((), ()), takes.bar: ((), ()),
    serving.step: ((0,), (None,)), serving.served: ((1,), (None,)), serving.settled: ((), ()),
    serving.due: ((), ()), serving.steps: ((), ()), serving.loosest: ((), ()),
    gather.chosen: ((2,), (None,)), gather.gathered: ((2,), (None,)),
}
WRONG_PICTURES = (
    (((0, 1, 1), (3, 2, 7)), 1), (((0, 1, 1), (0, 2, 8)), 1), (((0, 1, 1), (3, 2, 0)), 1), ((None,), 0),
    (PICTURE + ((11, 1, 12),), 4), (PICTURE + (PICTURE[0],), 4),
)


def listed(value):
    """The value with lists instead of tuples."""
    return [listed(item) for item in value] if isinstance(value, tuple) else value


def all_calls():
    """Each function with right arguments."""
    for call, (rest, _) in WITHOUT_PICTURE.items():
        yield call, (SIZES, PAGES) + rest
    for call, (rest, _) in WITH_PICTURE.items():
        yield call, (SIZES, PAGES, PICTURE) + rest


def tuples_within(value):
    """Whether there is no list in what is returned."""
    if isinstance(value, tuple):
        return all(tuples_within(item) for item in value)
    return not isinstance(value, (list, dict, set))


class Arguments(unittest.TestCase):
    def test_all_of_the_interface_are_here(self):
        told = {call.__name__ for call, _ in all_calls()}
        self.assertEqual(len(told), 46)
        self.assertEqual(len(list(all_calls())), 46)

    def test_lists_and_tuples_alike(self):
        for call, rest in all_calls():
            with self.subTest(call.__name__):
                told = call(*rest)
                self.assertTrue(tuples_within(told))
                self.assertTrue(same(call(*listed(rest)), told))
                self.assertTrue(same(call(*rest), told))

    def test_by_names(self):
        for call, rest in all_calls():
            with self.subTest(call.__name__):
                names = list(inspect.signature(call).parameters)
                self.assertTrue(same(call(**dict(list(zip(names, rest))[::-1])), call(*rest)))

    def test_arguments_stay(self):
        for call, rest in all_calls():
            with self.subTest(call.__name__):
                given = listed(rest)
                kept = copy.deepcopy(given)
                told = call(*given)
                self.assertTrue(same(given, kept))
                for part in given:
                    if isinstance(part, list):
                        part.clear()
                self.assertTrue(same(told, call(*rest)))

    def test_arguments_stay_where_an_error_is_raised(self):
        for call, (_, wrong) in WITH_PICTURE.items():
            given = listed((SIZES, PAGES, PICTURE + ((11, 6, 6),)) + wrong)
            kept = copy.deepcopy(given)
            caught(BadPicture, call, *given)
            self.assertTrue(same(given, kept))


class Order(unittest.TestCase):
    def test_sizes_first(self):
        for value, at in WRONG_SIZES + tuple((value, -1) for value in NO_SEQUENCES):
            for call, (_, wrong) in WITHOUT_PICTURE.items():
                self.assertEqual(caught(BadSizes, call, value, None, *wrong).at, at)
            for call, (_, wrong) in WITH_PICTURE.items():
                self.assertEqual(caught(BadSizes, call, value, None, None, *wrong).at, at)

    def test_then_pages(self):
        for value, at in WRONG_PAGES + tuple((value, -1) for value in NO_SEQUENCES):
            for call, (_, wrong) in WITHOUT_PICTURE.items():
                self.assertEqual(caught(BadPages, call, SIZES, value, *wrong).at, at)
            for call, (_, wrong) in WITH_PICTURE.items():
                self.assertEqual(caught(BadPages, call, SIZES, value, None, *wrong).at, at)

    def test_then_the_picture(self):
        for call, (_, wrong) in WITH_PICTURE.items():
            with self.subTest(call.__name__):
                for value, at in WRONG_PICTURES:
                    self.assertEqual(caught(BadPicture, call, SIZES, PAGES, value, *wrong).at, at)
                    self.assertEqual(caught(BadPicture, call, SIZES, PAGES, list(value), *wrong).at, at)
                for value in NO_SEQUENCES:
                    self.assertEqual(caught(BadPicture, call, SIZES, PAGES, value, *wrong).at, -1)
                for value in ANY:
                    self.assertEqual(caught(BadPicture, call, SIZES, PAGES, [value], *wrong).at, 0)

    def test_it_goes_by_the_sizes_and_pages(self):
        for call, (_, wrong) in WITH_PICTURE.items():
            self.assertEqual(caught(BadPicture, call, (1, 6), PAGES, PICTURE, *wrong).at, 1)
            self.assertEqual(caught(BadPicture, call, SIZES, (0, 1), PICTURE, *wrong).at, 2)
            self.assertEqual(caught(BadPicture, call, SIZES, (), PICTURE, *wrong).at, 0)


if __name__ == "__main__":
    unittest.main()
