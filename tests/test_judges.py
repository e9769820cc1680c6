"""Promises [32] and [33]: stories of stores, and what can have been."""

import copy
import random
import unittest

from tests.stories import Listing, look, requests_for, some_stories, stores_of
from tests.test_sizes import WRONG_PAGES, WRONG_SIZES
from tests.values import ANY, NO_NUMBERS, NO_SEQUENCES, caught, same
from whatmovesbuy.errors import BadPages, BadSizes, NoBlock, NoRoom, Refused
from whatmovesbuy.judges import costs, follow, held_row, measures, refusals, wrong_at
from whatmovesbuy.keeper import Keeper
from whatmovesbuy.plain import Plain

SIZES, PAGES = (1, 2, 4), (0, 3)
ASKED = (("take", 1), ("take", 2), ("take", 4), ("take", 4), ("give", 0), ("give", 0), ("take", 2), ("take", 1),
         ("give", 1), ("take", 1))
STORY = follow(Keeper(SIZES, PAGES), ASKED)
OF_STORIES = (measures, costs, held_row, refusals)


def listed(value):
    """The value with lists instead of tuples."""
    return [listed(item) for item in value] if isinstance(value, tuple) else value


def changed(value, path, other):
    """The value with another one at the end of a path of indexes."""
    if not path:
        return other
    row = list(value)
    row[path[0]] = changed(row[path[0]], path[1:], other)
    return tuple(row)


def paths(value):
    """The paths to all parts of a value, but its own."""
    for at, item in enumerate(value):
        yield (at,)
        if isinstance(item, tuple):
            for path in paths(item):
                yield (at,) + path


def part(value, path):
    """What stands at the end of a path."""
    for at in path:
        value = value[at]
    return value


class Following(unittest.TestCase):
    def test_told(self):
        self.assertTrue(same(STORY[:3], (
            (("take", 1), (0, (), ((0, 1, 0),))), (("take", 2), (1, (), ((0, 1, 0), (1, 2, 2)))),
            (("take", 4), (2, (), ((0, 1, 0), (1, 2, 2), (2, 4, 12)))))))
        self.assertEqual([told is None for _, told in STORY], [False] * 3 + [True, False, True, False, True, False, False])
        self.assertEqual(STORY[4][1], ((), ((1, 2, 2), (2, 4, 12))))
        self.assertTrue(same(follow(Keeper(SIZES, PAGES), ()), ()))
        self.assertTrue(same(follow(requests=[["take", 1]], store=Keeper(SIZES, PAGES)), STORY[:1]))

    def test_it_asks_one_by_one(self):
        for sizes, pages in (((1, 2), (0, 1)), ((1, 2, 4), (0, 3)), ((1, 3, 6), (0, 2, 5))):
            requests = requests_for(sizes, pages, 60, 9)
            for store, other in zip(stores_of(sizes, pages, 4), stores_of(sizes, pages, 4)):
                told = []
                for deed, number in requests:
                    try:
                        found = other.take(number) if deed == "take" else (other.give(number),)
                        told.append(((deed, number), (*found, other.picture())))
                    except (NoRoom, NoBlock):
                        told.append(((deed, number), None))
                story = follow(store, listed(requests))
                self.assertTrue(same(listed(story), listed(tuple(told))))
                self.assertEqual(listed(store.picture()), listed(other.picture()))
                self.assertGreater(len([one for one in story if one[1] is None]), 3)

    def test_it_tells_tuples(self):
        store = Listing(Keeper(SIZES, PAGES), (1, 5))
        story = follow(store, ASKED)
        self.assertIsInstance(story, tuple)
        for path in paths(story):
            self.assertNotIsInstance(part(story, path), list)
        self.assertIsNone(story[1][1])
        self.assertIsNone(wrong_at(SIZES, PAGES, story))

    def test_a_store_that_goes_on(self):
        keeper = Keeper(SIZES, PAGES)
        keeper.take(4)
        self.assertEqual(follow(keeper, (("take", 4),)), ((("take", 4), (1, (), ((0, 4, 0), (1, 4, 12)))),))

    def test_requests_that_are_none(self):
        for value in ((("take", 3),), (("take", 1), None), (("give", -1),), (("take", 1, 1),), (("give", True),)):
            keeper = Keeper(SIZES, PAGES)
            self.assertIs(caught(Refused, follow, keeper, value).value, value)
            self.assertEqual(keeper.taken, 0)
        for value in NO_SEQUENCES + NO_NUMBERS:
            if value not in ((), []):
                self.assertIs(caught(Refused, follow, Keeper(SIZES, PAGES), value).value, value)


class WhatCanHaveBeen(unittest.TestCase):
    def test_what_was(self):
        tried = 0
        for sizes, pages, _, story in some_stories():
            for told in (story, listed(story)):
                self.assertIsNone(wrong_at(sizes, pages, told))
            index, rows = look(sizes, pages, story)
            self.assertIsNone(index)
            self.assertTrue(same(measures(sizes, pages, story), tuple(rows)))
            self.assertTrue(same(costs(sizes, pages, listed(story)), tuple(paid for paid, _ in rows)))
            self.assertTrue(same(held_row(sizes, pages, story), tuple(held for _, held in rows)))
            told = [(at, held + entry[0][1]) for at, (entry, (_, held)) in enumerate(zip(story, rows))
                    if entry[1] is None and entry[0][0] == "take"]
            self.assertTrue(same(refusals(sizes, pages, story), tuple(told)))
            tried += len(told) > 0 and max(paid for paid, _ in rows) > 0
        self.assertGreater(tried, 5)

    def test_by_names_and_empty(self):
        for call in OF_STORIES:
            self.assertTrue(same(call(SIZES, PAGES, []), ()))
            self.assertEqual(call(story=listed(STORY), pages=[0, 3], sizes=[1, 2, 4]), call(SIZES, PAGES, STORY))
        self.assertIsNone(wrong_at(story=[], pages=(), sizes=(1,)))

    def test_any_value_as_an_entry(self):
        for value in ANY + NO_NUMBERS:
            for at in range(len(STORY) + 1):
                story = STORY[:at] + (value,) + STORY[at:]
                self.assertEqual(wrong_at(SIZES, PAGES, story), at)
                for call in OF_STORIES:
                    self.assertIs(caught(Refused, call, SIZES, PAGES, story).value, story)

    def test_any_value_as_a_part(self):
        refused = 0
        for path in paths(STORY):
            for value in ANY + NO_NUMBERS + (2, 3, 4, 12, 13, ((0, 0),), ((0, 1),), ((2, 12),)):
                if same(listed(value), listed(part(STORY, path))):
                    continue
                story = changed(STORY, path, value)
                told = wrong_at(SIZES, PAGES, story)
                self.assertEqual(told, look(SIZES, PAGES, story)[0], (path, value))
                refused += told == path[0]
        self.assertGreater(refused, 1000)

    def test_spoiled_stories(self):
        chance = random.Random(3)
        wrong = 0
        for sizes, pages, _, story in some_stories(30):
            places = list(paths(story))
            for _ in range(150):
                path = chance.choice(places)
                value = part(story, path)
                if isinstance(value, int):
                    value += chance.choice((-1, 1, 1, 2, sizes[-1]))
                elif isinstance(value, tuple) and value:
                    value = chance.choice((value[1:], value[:-1], value[::-1], value + value[-1:]))
                elif isinstance(value, tuple):
                    value = ((chance.randrange(4), chance.randrange(9)),)
                else:
                    value = chance.choice(("take", "give", None, (), ((), ())))
                other = changed(story, path, value)
                told = look(sizes, pages, other)[0]
                self.assertEqual(wrong_at(sizes, pages, other), told)
                self.assertEqual(wrong_at(sizes, pages, listed(other)), told)
                wrong += told is not None
                if told is not None:
                    self.assertEqual(wrong_at(sizes, pages, other[:told]), None)
                    self.assertIs(caught(Refused, measures, sizes, pages, other).value, other)
        self.assertGreater(wrong, 2000)

    def test_each_fault(self):
        block = ((0, 1, 0),)
        one = (("take", 1), (0, (), block))
        two = (("take", 2), (1, ((0, 13),), ((0, 1, 13), (1, 2, 14))))
        gone = (("give", 0), (((1, 0),), ((1, 2, 0),)))
        self.assertIsNone(wrong_at(SIZES, PAGES, (one, two, gone)))
        self.assertEqual(measures(SIZES, PAGES, (one, two, gone)), ((0, 1), (1, 3), (2, 2)))
        wrong = (
            (("take", 1), (1, (), ((1, 1, 0),))), (("take", 1), (False, (), block)), (("take", 2), (0, (), block)),
            (("take", 1), (0, ((0, 1),), block)), (("take", 1), (0, None, block)), (("take", 1), (0, (), ())),
            (("take", 1), (0, (), ((0, 1, 4),))), (("take", 1), (0, (), ((0, 1, False),))), (("take", 1), ((), block)),
            (("take", 1), (0, (), block, ())), (("take", 1), (0, (), block + ((1, 1, 1),))), (("give", 0), ((), ())),
            (("take", True), (0, (), block)), (("put", 1), None), (("take", 3), None), (("take", 1),), ("take", 1),
        )
        for entry in wrong:
            self.assertEqual(wrong_at(SIZES, PAGES, (entry,)), 0)
        behind_one = (
            (("give", 0), None), (("give", 1), ((), block)), (("give", 0), ((), block)), (("give", 0), (((0, 1),), ())),
            (("give", 0), (None, ())), (("give", 0), ((),)), (("give", 0), (0, (), ())),
            (("take", 2), (1, ((0, 0),), ((0, 1, 0), (1, 2, 2)))), (("take", 2), (1, (), ((0, 1, 0), (1, 2, 0)))),
            (("take", 2), (1, (), ((0, 1, 1), (1, 2, 2)))), (("take", 2), (1, (), ((0, 1, 0), (1, 2, 3)))),
            (("take", 2), (1, ((0, 1),), ((0, 1, 0), (1, 2, 2)))), (("take", 2), (1, (), ((1, 2, 2), (0, 1, 0)))),
            (("take", 2), (1, ((1, 2),), ((0, 1, 0), (1, 2, 2)))), (("take", 2), (1, (), ((0, 1, 0), (1, 1, 2)))),
        )
        for entry in behind_one:
            self.assertEqual(wrong_at(SIZES, PAGES, (one, entry, "any")), 1)
            self.assertEqual(caught(Refused, costs, SIZES, PAGES, (one, entry)).value, (one, entry))

    def test_refusals_that_can_have_been(self):
        # to take: always, though there is room; to give: as long as no such block is there
        story = ((("take", 1), None), (("give", 0), None), (("take", 1), (0, (), ((0, 1, 14),))), (("give", 1), None),
                 (("take", 4), None), (("give", 0), ((), ())), (("give", 0), None))
        self.assertIsNone(wrong_at(SIZES, PAGES, story))
        self.assertEqual(refusals(SIZES, PAGES, story), ((0, 1), (4, 5)))
        self.assertEqual(costs(SIZES, PAGES, story), (0,) * 7)
        self.assertEqual(held_row(SIZES, PAGES, story), (0, 0, 1, 1, 1, 0, 0))
        self.assertEqual(wrong_at(SIZES, PAGES, story[:3] + ((("give", 0), None),)), 3)

    def test_handles_go_on(self):
        # a handle that was given back isn't told again
        story = follow(Plain(SIZES, PAGES), (("take", 1), ("give", 0), ("take", 1)))
        self.assertEqual(story[2][1], (1, (), ((1, 1, 0),)))
        again = story[:2] + ((("take", 1), (0, (), ((0, 1, 0),))),)
        self.assertEqual(wrong_at(SIZES, PAGES, again), 2)

    def test_stories_that_are_none(self):
        for call in OF_STORIES + (wrong_at,):
            for value, at in WRONG_SIZES:
                self.assertEqual(caught(BadSizes, call, value, None, None).at, at)
            for value, at in WRONG_PAGES:
                self.assertEqual(caught(BadPages, call, SIZES, value, None).at, at)
            for value in NO_SEQUENCES:
                self.assertIs(caught(Refused, call, SIZES, PAGES, value).value, value)

    def test_arguments_stay(self):
        for call in OF_STORIES + (wrong_at,):
            given = listed(STORY)
            kept = copy.deepcopy(given)
            call(list(SIZES), list(PAGES), given)
            self.assertEqual(given, kept)


if __name__ == "__main__":
    unittest.main()
