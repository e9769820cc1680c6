"""Promises [34] and [35]: verdicts, and a store out of a story."""

import random
import unittest

from tests.stories import Listing, look, some_stories
from tests.test_judges import listed
from tests.test_sizes import WRONG_PAGES, WRONG_SIZES
from tests.values import ANY, NO_NUMBERS, NO_SEQUENCES, caught, same
from whatmovesbuy.errors import BadPages, BadSizes, NoBlock, NoRoom, Refused
from whatmovesbuy.judges import Retold, costs, follow, held_row, judged, measures, refusals
from whatmovesbuy.keeper import Keeper
from whatmovesbuy.plain import Wild

SIZES, PAGES = (1, 2, 4), (0, 1)
# two moves at taking, one at giving back; a refusal at 7 cells, one at 6
TAKEN = (("take", 1), (0, (), ((0, 1, 0),)))
MOVED = (("take", 4), (1, ((0, 5),), ((0, 1, 5), (1, 4, 0))))
LOST = (("take", 2), None)
TWICE = (("take", 1), (2, ((0, 4), (0, 6)), ((0, 1, 6), (1, 4, 0), (2, 1, 7))))
GIVEN = (("give", 0), (((2, 4), (1, 0)), ((1, 4, 0), (2, 1, 4))))
BACK = (("give", 0), (((2, 4),), ((1, 4, 0), (2, 1, 4))))
NOTHING = (("give", 0), None)
STORY = (TAKEN, MOVED, LOST, TWICE, BACK, NOTHING, LOST)


def verdict_of(sizes, pages, cells, mosts, story):
    """The verdict, entry by entry as the document tells it."""
    wrong, rows = look(sizes, pages, story)
    for at, entry in enumerate(story):
        if at == wrong:
            return "wrong", at
        paid, held = rows[at]
        if paid > mosts[("take", "give").index(entry[0][0])]:
            return "dear", at, paid
        if entry[1] is None and entry[0][0] == "take" and held + entry[0][1] <= cells:
            return "lost", at, held + entry[0][1]
    return "kept", max([paid for paid, _ in rows] + [0]), sum(paid for paid, _ in rows)


class Verdicts(unittest.TestCase):
    def test_measures_of_the_story(self):
        self.assertEqual(measures(SIZES, PAGES, STORY), ((0, 1), (1, 5), (0, 5), (2, 6), (1, 5), (0, 5), (0, 5)))
        self.assertEqual(refusals(SIZES, PAGES, STORY), ((2, 7), (6, 7)))

    def test_each(self):
        told = {
            (6, (2, 1)): ("kept", 2, 4), (6, (10 ** 31, 10 ** 31)): ("kept", 2, 4), (0, (2, 1)): ("kept", 2, 4),
            (7, (2, 1)): ("lost", 2, 7), (10 ** 31, (2, 1)): ("lost", 2, 7), (6, (1, 1)): ("dear", 3, 2),
            (6, (0, 1)): ("dear", 1, 1), (6, (2, 0)): ("dear", 4, 1), (7, (1, 0)): ("lost", 2, 7),
            (7, (0, 0)): ("dear", 1, 1),
        }
        for (cells, mosts), verdict in told.items():
            self.assertTrue(same(judged(SIZES, PAGES, cells, mosts, STORY), verdict))
            self.assertEqual(judged(story=listed(STORY), mosts=list(mosts), cells=cells, pages=[0, 1], sizes=[1, 2, 4]),
                             verdict)

    def test_wrong_ones(self):
        self.assertTrue(same(judged(SIZES, PAGES, 6, (2, 1), STORY[:4] + (GIVEN,)), ("wrong", 4)))
        self.assertEqual(judged(SIZES, PAGES, 0, (9, 9), (None,)), ("wrong", 0))
        # what comes first is told: dear ahead of wrong, wrong ahead of lost
        self.assertEqual(judged(SIZES, PAGES, 6, (1, 1), STORY[:4] + (GIVEN,)), ("dear", 3, 2))
        self.assertEqual(judged(SIZES, PAGES, 7, (2, 1), (TAKEN, MOVED, GIVEN, LOST)), ("wrong", 2))
        self.assertEqual(judged(SIZES, PAGES, 7, (2, 1), (TAKEN, MOVED, LOST, GIVEN)), ("lost", 2, 7))
        # at one entry, too: what cannot have been isn't dear, though it moves a block
        self.assertEqual(judged(SIZES, PAGES, 7, (0, 0), (TAKEN, (MOVED[0], (1, ((0, 5),), ())))), ("wrong", 1))

    def test_an_empty_story(self):
        self.assertTrue(same(judged(SIZES, PAGES, 0, (0, 0), ()), ("kept", 0, 0)))
        self.assertTrue(same(judged(SIZES, (), 10 ** 31, [0, 0], []), ("kept", 0, 0)))

    def test_of_stories(self):
        chance = random.Random(1)
        seen = set()
        for sizes, pages, _, story in some_stories():
            rows = measures(sizes, pages, story)
            amounts = [many for _, many in refusals(sizes, pages, story)] + [held for _, held in rows]
            paid = sorted({paid for paid, _ in rows})
            spoiled = story[:10] + story[11:]
            for _ in range(40):
                cells = max(0, chance.choice(amounts) + chance.randrange(-1, 2))
                mosts = tuple(max(0, chance.choice(paid[-2:]) + chance.randrange(-1, 2)) for _ in range(2))
                for told in (story, spoiled):
                    verdict = judged(sizes, pages, cells, mosts, told)
                    self.assertTrue(same(verdict, verdict_of(sizes, pages, cells, mosts, told)))
                    seen.add(verdict[0])
        self.assertEqual(seen, {"kept", "lost", "dear", "wrong"})

    def test_kept_exactly_where(self):
        for sizes, pages, _, story in some_stories():
            told = costs(sizes, pages, story)
            most = [max([paid for paid, (request, _) in zip(told, story) if request[0] == deed] + [0])
                    for deed in ("take", "give")]
            least = min([many for _, many in refusals(sizes, pages, story)] + [10 ** 6])
            self.assertEqual(judged(sizes, pages, least - 1, most, story), ("kept", max(told), sum(told)))
            if least < 10 ** 6:
                self.assertEqual(judged(sizes, pages, least, most, story)[0], "lost")
            for at in range(2):
                if most[at]:
                    less = list(most)
                    less[at] -= 1
                    self.assertEqual(judged(sizes, pages, 0, less, story)[0], "dear")

    def test_of_a_keeper(self):
        for sizes, pages, requests, _ in some_stories():
            story = follow(Keeper(sizes, pages), requests)
            cells = Keeper(sizes, pages).cells
            self.assertEqual(judged(sizes, pages, len(pages) * sizes[-1], (cells, cells), story)[0], "kept")

    def test_which_fault_is_told(self):
        for value, at in WRONG_SIZES:
            self.assertEqual(caught(BadSizes, judged, value, None, None, None, None).at, at)
        for value, at in WRONG_PAGES:
            self.assertEqual(caught(BadPages, judged, SIZES, value, None, None, None).at, at)
        for value in NO_NUMBERS:
            self.assertIs(caught(Refused, judged, SIZES, PAGES, value, None, None).value, value)
        wrong = ANY + ((), (1,), (1, 2, 3), [1, 2, 3], (1, -1), (-1, 1), (True, 1), (1, False), (None, 0), ("1", 1))
        for value in wrong:
            self.assertIs(caught(Refused, judged, SIZES, PAGES, 3, value, None).value, value)
        for value in NO_SEQUENCES:
            self.assertIs(caught(Refused, judged, SIZES, PAGES, 3, [0, 0], value).value, value)


class StoresOutOfStories(unittest.TestCase):
    def test_followed(self):
        for sizes, pages, requests, story in some_stories():
            for told in (story, listed(story)):
                store = Retold(sizes, pages, told)
                self.assertTrue(same((store.sizes, store.pages), (sizes, pages)))
                self.assertTrue(same(follow(store, requests), story))
            again = follow(Listing(Retold(list(sizes), list(pages), story)), requests)
            self.assertTrue(same(again, story))

    def test_step_by_step(self):
        story = listed(STORY)
        store = Retold(story=story, pages=[0, 1], sizes=[1, 2, 4])
        story[0][1][2][0][2] = 7
        story.clear()
        self.assertTrue(same(store.picture(), ()))
        self.assertTrue(same(store.take(1), (0, ())))
        self.assertTrue(same(store.picture(), ((0, 1, 0),)))
        self.assertTrue(same(store.take(size=4), (1, ((0, 5),))))
        self.assertEqual(caught(NoRoom, store.take, 2).size, 2)
        self.assertEqual(store.picture(), ((0, 1, 5), (1, 4, 0)))
        self.assertEqual(store.take(1), (2, ((0, 4), (0, 6))))
        self.assertTrue(same(store.give(handle=0), ((2, 4),)))
        self.assertEqual(caught(NoBlock, store.give, 0).handle, 0)
        self.assertEqual(store.picture(), ((1, 4, 0), (2, 1, 4)))
        self.assertEqual(caught(NoRoom, store.take, 2).size, 2)
        for value in ANY + (1, 2, 4):
            self.assertIs(caught(Refused, store.take, value).value, value)
            self.assertIs(caught(Refused, store.give, value).value, value)
        self.assertEqual(store.picture(), ((1, 4, 0), (2, 1, 4)))

    def test_any_other_request(self):
        store = Retold(SIZES, PAGES, STORY)
        pictures = []
        for (deed, number), told in STORY:
            before = store.picture()
            for value in ANY + NO_NUMBERS + (2, 3, 4):
                if deed == "give" or not same(value, number):
                    self.assertIs(caught(Refused, store.take, value).value, value)
                if deed == "take" or not same(value, number):
                    self.assertIs(caught(Refused, store.give, value).value, value)
            self.assertEqual(store.picture(), before)
            if told is None:
                caught(NoRoom if deed == "take" else NoBlock, store.take if deed == "take" else store.give, number)
            else:
                found = (*store.take(number), store.picture()) if deed == "take" else (store.give(number), store.picture())
                self.assertEqual(found, told)
            pictures.append(store.picture())
        self.assertEqual(pictures[-1], ((1, 4, 0), (2, 1, 4)))

    def test_two_beside_one_another(self):
        one, other = Retold(SIZES, PAGES, STORY), Retold(SIZES, PAGES, STORY)
        one.take(1)
        one.take(4)
        self.assertEqual((other.picture(), other.take(1)), ((), (0, ())))
        self.assertEqual(follow(one, [request for request, _ in STORY[2:]]), STORY[2:])

    def test_wrong_stories(self):
        for story in ((None,), (TAKEN, TAKEN), (TAKEN, (("give", 0), None)), [[["take", 1], [1, [], []]]]):
            self.assertIs(caught(Refused, Retold, SIZES, PAGES, story).value, story)
        for value in NO_SEQUENCES:
            self.assertIs(caught(Refused, Retold, SIZES, PAGES, value).value, value)
        for value, at in WRONG_SIZES:
            self.assertEqual(caught(BadSizes, Retold, value, None, None).at, at)
        for value, at in WRONG_PAGES:
            self.assertEqual(caught(BadPages, Retold, SIZES, value, None).at, at)

    def test_an_empty_story(self):
        store = Retold((1,), (), [])
        self.assertTrue(same((store.sizes, store.pages, store.picture()), ((1,), (), ())))
        self.assertEqual(caught(Refused, store.take, 1).value, 1)
        self.assertEqual(follow(store, ()), ())

    def test_of_wild_stores(self):
        chance = random.Random(5)
        for _ in range(20):
            wild = Wild((1, 2, 4), (0, 2, 3), 5, [chance.randrange(20) for _ in range(200)])
            requests = [chance.choice((("take", 1), ("take", 2), ("take", 4), ("give", chance.randrange(9))))
                        for _ in range(50)]
            story = follow(wild, requests)
            self.assertEqual(follow(Retold(wild.sizes, wild.pages, story), requests), story)
            self.assertEqual(held_row(wild.sizes, wild.pages, story)[-1],
                             sum(block[1] for block in wild.picture()))


if __name__ == "__main__":
    unittest.main()
