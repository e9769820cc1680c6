"""Promises [47] to [51]: a store that moves blocks at giving back alone, and the foe of those that move less there."""

import inspect
import random
import unittest

from tests.models import Refusal, behind, put, serve
from tests.rows import some_requests, walk
from tests.stories import Listing
from tests.test_sizes import WRONG_PAGES, WRONG_SIZES
from tests.values import ANY, NO_NUMBERS, NO_SEQUENCES, caught, same
from tests.worlds import all_worlds, free_row, free_set, loose_row
from whatmovesbuy.eager import Eager, eager_beaten, eager_many, eager_need, eager_plan, eager_request
from whatmovesbuy.errors import BadPages, BadPicture, BadSizes, NoBlock, NoRoom, Refused
from whatmovesbuy.judges import follow, judged
from whatmovesbuy.keeper import Keeper
from whatmovesbuy.moves import cost
from whatmovesbuy.pictures import without
from whatmovesbuy.plain import Plain, Wild
from whatmovesbuy.serving import due, served
from whatmovesbuy.takes import bar

WORLDS = (
    ((3,), (2, 5)), ((1, 2), (0, 4)), ((1, 4), (0, 1, 9)), ((2, 6), (1, 10 ** 31)), ((1, 2, 4), (0, 3, 4)),
    ((1, 2, 6), (0, 1, 5)), ((1, 3, 6, 12), (1, 2, 5, 6)), ((1, 2, 4, 8), (0, 1, 2, 3, 4)), ((2, 4, 12, 24), (3, 4)),
    ((1, 2, 4, 8, 16), (0, 1, 5, 6, 7)), ((1, 2), (5,)),
)
# where the foe has a plan
FOES = (
    ((1, 2), (0, 4)), ((1, 4), (0, 1, 9)), ((2, 6), (1, 10 ** 31)), ((1, 2, 4), (0, 3, 4)), ((1, 2, 6), (0, 1, 5, 7)),
    ((1, 3, 6, 12), (1, 2, 5, 6)), ((1, 2, 4, 8), (0, 1, 2, 3, 4)), ((1, 2, 4, 8, 16), (0, 1, 5, 6, 7)),
    ((1, 5), (0, 1)), ((2, 4, 12), (0, 1, 2)),
)


def plan_of(sizes, pages):
    """The sizes that are taken first, page by page as the document tells them."""
    m = len(sizes) - 1
    ratio = [sizes[j + 1] // sizes[j] for j in range(m)]
    rows = [[sizes[0]] + [sizes[j] for j in range(m) for _ in range(ratio[j] - 1)]]
    for i in range(m):
        rows.append([sizes[i]] + [sizes[j] for j in range(i + 1, m) for _ in range(ratio[j] - 1)])
    rows += [[sizes[m]]] * (len(pages) - m - 1)
    return rows


def played(store):
    """What the foe asks of a store, and what it tells of it, played by the tests."""
    plan = sum(plan_of(tuple(store.sizes), tuple(store.pages)), [])
    asked = []
    while True:
        picture = tuple(tuple(block) for block in store.picture())
        barred = bar(store.sizes, store.pages, picture)
        if barred is not None:
            request = ("take", barred[0])
        elif picture and picture[0][0] != 0 or len(picture) > len(plan):
            return asked, None
        else:
            request = ("give", 0) if len(picture) == len(plan) else ("take", plan[len(picture)])
        asked.append(request)
        if request[0] == "give":
            store.give(0)
            continue
        try:
            store.take(request[1])
        except NoRoom:
            return asked, ("refused", len(asked) - 1, request[1], tuple(tuple(block) for block in store.picture()))


class Mover:
    """A store of the tests' own: at giving back alone it moves so many cells, as serving or chance tells."""

    def __init__(self, sizes, pages, cells, chance=None):
        self.sizes, self.pages, self.cells, self.chance = sizes, pages, cells, chance
        self.blocks, self.handle = (), 0

    def picture(self):
        """Its picture."""
        return self.blocks

    def take(self, size):
        """Without moves, into the least hole, or anywhere."""
        try:
            found = put(self.sizes, self.pages, self.blocks, self.handle, size)
        except Refusal:
            raise NoRoom(size) from None
        if self.chance and self.chance.randrange(5) == 0:
            places = free_row(self.sizes, self.pages, self.blocks, self.sizes.index(size))
            found = self.blocks + ((self.handle, size, self.chance.choice(places)),)
        self.blocks = found
        self.handle += 1
        return self.handle - 1, ()

    def give(self, handle):
        """With moves."""
        self.blocks = without(self.sizes, self.pages, self.blocks, handle)
        if not self.chance:
            moves, self.blocks = served(self.sizes, self.pages, self.blocks, self.cells)
            return moves
        made, left = [], self.cells
        for _ in range(20):
            can = [(handle, place, size) for handle, size, _ in self.blocks if size <= left
                   for place in free_row(self.sizes, self.pages, self.blocks, self.sizes.index(size))]
            if can:
                handle, place, size = self.chance.choice(can)
                self.blocks = behind(self.sizes, self.pages, self.blocks, ((handle, place),))[0]
                made.append((handle, place))
                left -= size
        return tuple(made)


class EagerStores(unittest.TestCase):
    def test_as_the_model(self):
        chance = random.Random(1)
        for sizes, pages in WORLDS:
            store, picture, many = Eager(list(sizes), list(pages)), (), 0
            self.assertTrue(same((store.sizes, store.pages, store.picture()), (sizes, pages, ())))
            most = {size: 0 for size in sizes}
            held = {}
            for deed, number in some_requests(chance, store, store.room, 200, held):
                if deed == "take":
                    picture = put(sizes, pages, picture, many, number)
                    self.assertTrue(same(store.take(number), (many, ())))
                    held[many] = number
                    many += 1
                else:
                    rest = without(sizes, pages, picture, number)
                    _, moves, picture = serve(sizes, pages, rest, None)
                    self.assertTrue(same(store.give(number), moves))
                    size = held.pop(number)
                    paid = cost(sizes, pages, rest, moves)
                    self.assertEqual(paid, due(sizes, pages, rest))
                    self.assertLessEqual(paid, sum(sizes[sizes.index(size):-1]))
                    most[size] = max(paid, most[size])
                self.assertTrue(same(store.picture(), picture))
                self.assertTrue(same(store.room(), len(free_set(sizes, pages, picture))))
                self.assertEqual(loose_row(sizes, pages, picture), [])
            if len(pages) > 1 and len(sizes) > 1:
                self.assertGreater(most[sizes[0]], 0)

    def test_to_the_last_cell(self):
        chance = random.Random(2)
        for sizes, pages in WORLDS:
            store, asked, most = Eager(sizes, pages), [], 0
            for request, _ in walk(chance, store, store.room, 300):
                asked.append(request)
                most = max(most, len(pages) * sizes[-1] - store.room())
            self.assertEqual(most, len(pages) * sizes[-1])
            story = follow(Eager(sizes, pages), asked)
            self.assertEqual(judged(sizes, pages, most, (0, eager_need(sizes)), story)[0], "kept")

    def test_refusals(self):
        for sizes, pages in WORLDS + (((1, 2), ()),):
            store = Eager(sizes, pages)
            while store.room() > sizes[0]:
                store.take(sizes[0])
            told = (store.picture(), store.room())
            for value in NO_NUMBERS + (0, 5 * sizes[-1], 10 ** 31, "1"):
                self.assertIs(caught(Refused, store.take, value).value, value)
                if not same(value, 0) or not pages:
                    self.assertIs(caught(NoBlock, store.give, value).handle, value)
            for size in sizes:
                if size > store.room():
                    self.assertEqual(caught(NoRoom, store.take, size).size, size)
            self.assertEqual((store.picture(), store.room()), told)
            if pages:
                handle = len(told[0])
                self.assertEqual(store.take(size=sizes[0]), (handle, ()))
                self.assertEqual(caught(NoRoom, store.take, sizes[0]).size, sizes[0])
                self.assertEqual(store.give(handle=handle), ())
                self.assertEqual(caught(NoBlock, store.give, handle).handle, handle)

    def test_which_fault_is_told(self):
        for value, at in WRONG_SIZES + tuple((value, -1) for value in NO_SEQUENCES):
            self.assertEqual(caught(BadSizes, Eager, value, None).at, at)
            self.assertEqual(caught(BadSizes, eager_need, value).at, at)
        for value, at in WRONG_PAGES + tuple((value, -1) for value in NO_SEQUENCES):
            self.assertEqual(caught(BadPages, Eager, (1,), value).at, at)
        self.assertEqual(list(inspect.signature(Eager).parameters), ["sizes", "pages"])

    def test_need(self):
        for sizes, told in (((1,), 0), ((64,), 0), ((1, 2), 1), ((1, 2, 6), 3), ([1, 2, 4, 8, 64], 15), ((3, 6, 12), 9)):
            self.assertTrue(same(eager_need(sizes), told))
            self.assertEqual(eager_need(sizes=sizes), told)


class ThePlan(unittest.TestCase):
    def test_told(self):
        for sizes, pages in FOES:
            rows = plan_of(sizes, pages)
            self.assertTrue(same(eager_plan(sizes, pages), tuple(sum(rows, []))))
            self.assertEqual(eager_plan(pages=list(pages), sizes=list(sizes)), tuple(sum(rows, [])))
            self.assertEqual(sum(rows[0]), sizes[-1])
            self.assertEqual(len(rows), len(pages))
            self.assertEqual(sum(eager_plan(sizes, pages)), (len(pages) - 1) * sizes[-1] + sizes[0])
            self.assertTrue(same(eager_many(sizes, pages), len(pages) * sizes[-1] // sizes[0] + 3))
            self.assertEqual(eager_many(pages=list(pages), sizes=list(sizes)), eager_many(sizes, pages))
        self.assertEqual(eager_plan((1, 2, 6), (0, 1, 5, 7)), (1, 1, 2, 2, 1, 2, 2, 2, 6))
        self.assertEqual(eager_plan((1, 2), (0, 1)), (1, 1, 1))
        self.assertEqual(eager_plan((2, 6), (0, 1, 2)), (2, 2, 2, 2, 6))

    def test_none(self):
        for call, rest in ((eager_plan, ()), (eager_many, ()), (eager_request, (None,))):
            for value, at in WRONG_SIZES + tuple((value, -1) for value in NO_SEQUENCES):
                self.assertEqual(caught(BadSizes, call, value, None, *rest).at, at)
            for value, at in WRONG_PAGES + tuple((value, -1) for value in NO_SEQUENCES):
                self.assertEqual(caught(BadPages, call, (1,), value, *rest).at, at)
            for sizes, pages in (((1,), ()), ([5], (0, 1, 2))):
                self.assertIs(caught(Refused, call, sizes, pages, *rest).value, sizes)
            for sizes, pages in (((1, 2), (0,)), ((1, 2), []), ((1, 2, 4, 8, 16), (0, 1, 2, 3)), ((1, 2, 4), [0, 9])):
                self.assertIs(caught(Refused, call, sizes, pages, *rest).value, pages)

    def test_where_its_blocks_go(self):
        # to a store without moves that isn't lost, whatever its choices: page by page, as holes are the digits
        chance = random.Random(3)
        for sizes, pages in FOES:
            for _ in range(10):
                store = Plain(sizes, pages, [chance.randrange(9) for _ in range(50)])
                for size in eager_plan(sizes, pages):
                    if bar(sizes, pages, store.picture()):
                        break
                    store.take(size)
                else:
                    free = free_set(sizes, pages, store.picture())
                    self.assertEqual(len(free), sizes[-1] - sizes[0])


class TheFoesRequests(unittest.TestCase):
    def test_by_the_picture(self):
        sizes, pages = (1, 2, 4), (0, 1, 2)
        plan = (1, 1, 2, 1, 2, 2)
        keeper = Eager(sizes, pages)
        for size in plan:
            self.assertTrue(same(eager_request(sizes, pages, keeper.picture()), ("take", size)))
            keeper.take(size)
        self.assertTrue(same(eager_request(sizes, pages, keeper.picture()), ("give", 0)))
        self.assertEqual(eager_request(picture=[list(block) for block in keeper.picture()], pages=[0, 1, 2],
                                       sizes=[1, 2, 4]), ("give", 0))
        # more blocks than the plan has, or no block 0: no request, if the picture is ready
        full = keeper.picture() + ((6, 1, 5),)
        self.assertIsNone(bar(sizes, pages, full))
        self.assertIsNone(eager_request(sizes, pages, full))
        for picture in (((1, 1, 0),), ((5, 4, 0), (6, 4, 4))):
            self.assertIsNone(bar(sizes, pages, picture))
            self.assertIsNone(eager_request(sizes, pages, picture))
        # other blocks than the plan's: it goes by how many there are
        self.assertEqual(eager_request(sizes, pages, ((0, 4, 0), (9, 4, 4))), ("take", 2))
        self.assertEqual(eager_request(sizes, pages, ()), ("take", 1))
        # a picture that isn't ready: whatever else is there
        rough = ((1, 1, 0), (2, 1, 2))
        self.assertEqual(bar(sizes, pages, rough), (4, 4, 2))
        self.assertEqual(eager_request(sizes, pages, rough), ("take", 4))
        self.assertEqual(eager_request(sizes, pages, ((0, 1, 0), (2, 1, 2))), ("take", 4))
        self.assertEqual(eager_request(sizes, pages, rough + ((3, 4, 4), (4, 4, 8))), ("take", 2))

    def test_counted(self):
        seen = set()
        for sizes, pages, picture in all_worlds(40):
            if len(sizes) == 1 or len(pages) < len(sizes):
                continue
            barred, plan = bar(sizes, pages, picture), sum(plan_of(sizes, pages), [])
            told = eager_request(sizes, pages, picture)
            if barred:
                self.assertTrue(same(told, ("take", barred[0])))
                seen.add("barred")
            elif picture and 0 not in [block[0] for block in picture] or len(picture) > len(plan):
                self.assertIsNone(told)
                seen.add("none")
            elif len(picture) == len(plan):
                self.assertEqual(told, ("give", 0))
            else:
                self.assertTrue(same(told, ("take", plan[len(picture)])))
                seen.add("plan")
        self.assertEqual(seen, {"barred", "none", "plan"})

    def test_wrong_pictures(self):
        for value in NO_SEQUENCES:
            self.assertEqual(caught(BadPicture, eager_request, (1, 2), (0, 1), value).at, -1)
        for value in ANY:
            self.assertEqual(caught(BadPicture, eager_request, (1, 2), (0, 1), ((0, 1, 0), value)).at, 1)


class Beaten(unittest.TestCase):
    def test_eager_stores(self):
        for sizes, pages in FOES:
            self.assertIsNone(eager_beaten(Eager(sizes, pages)))
            self.assertIsNone(eager_beaten(store=Listing(Eager(sizes, pages))))
            store = Eager(sizes, pages)
            asked, _ = played(store)
            story = follow(Eager(sizes, pages), asked)
            self.assertLessEqual(len(asked), eager_many(sizes, pages))
            # at just one request it moves all that it must be let move
            told = judged(sizes, pages, len(pages) * sizes[-1], (0, eager_need(sizes)), story)
            self.assertEqual(told, ("kept", eager_need(sizes), eager_need(sizes)))
            self.assertIsNone(eager_beaten(Eager(sizes, pages)))
            once = Eager(sizes, pages)
            eager_beaten(once)
            self.assertEqual(once.picture(), store.picture())

    def test_stores_without_moves(self):
        chance = random.Random(4)
        for sizes, pages in FOES:
            for at in range(12):
                choices = [chance.randrange(12) for _ in range(at * 4)]
                told = eager_beaten(Plain(sizes, pages, choices))
                asked, verdict = played(Plain(sizes, pages, choices))
                self.assertTrue(same(told, verdict))
                self.assertEqual((told[0], told[1], ("take", told[2])), ("refused", len(asked) - 1, asked[-1]))
                self.assertLessEqual(len(asked), eager_many(sizes, pages))
                self.assertLessEqual(told[2], len(free_set(sizes, pages, told[3])))
                self.assertEqual(told, eager_beaten(Listing(Plain(sizes, pages, choices))))

    def test_stores_that_move_less(self):
        chance = random.Random(5)
        for sizes, pages in FOES:
            need = eager_need(sizes)
            for cells in sorted({0, need // 2, need - 1}):
                told = eager_beaten(Mover(sizes, pages, cells))
                self.assertTrue(same(told, played(Mover(sizes, pages, cells))[1]))
                self.assertEqual(told[0], "refused")
                for seed in range(4):
                    told = eager_beaten(Mover(sizes, pages, cells, random.Random(seed)))
                    self.assertEqual(told, played(Mover(sizes, pages, cells, random.Random(seed)))[1])
                    self.assertEqual(told[0], "refused")
            self.assertIsNone(eager_beaten(Mover(sizes, pages, need)))
            self.assertIsNone(eager_beaten(Mover(sizes, pages, need + chance.randrange(9))))

    def test_stores_that_move_at_taking(self):
        chance = random.Random(6)
        seen = set()
        for sizes, pages in FOES:
            self.assertIsNone(eager_beaten(Keeper(sizes, pages)))
            for _ in range(8):
                choices = [chance.randrange(9) for _ in range(60)]
                told = eager_beaten(Wild(sizes, pages, sizes[-1], choices))
                self.assertTrue(same(told, played(Wild(sizes, pages, sizes[-1], choices))[1]))
                seen.add(told is None)
        self.assertIn(False, seen)

    def test_the_first_refusal(self):
        for whim in range(6):
            told = eager_beaten(Listing(Eager((1, 2, 4), (0, 1, 2)), (whim,)))
            self.assertTrue(same(told, played(Listing(Eager((1, 2, 4), (0, 1, 2)), (whim,)))[1]))
            self.assertEqual(told[:3], ("refused", whim, (1, 1, 2, 1, 2, 2)[whim]))
            self.assertEqual(len(told[3]), whim)

    def test_where_there_is_no_foe(self):
        for sizes, pages in (((1,), (0, 1)), ((5,), ())):
            for store in (Eager(sizes, pages), Plain(sizes, pages)):
                self.assertEqual(caught(Refused, eager_beaten, store).value, sizes)
        for sizes, pages in (((1, 2), (0,)), ((1, 2, 4), (0, 1)), ((1, 2, 4, 8, 16), ())):
            for store in (Eager(sizes, pages), Plain(sizes, pages)):
                self.assertEqual(caught(Refused, eager_beaten, store).value, pages)
                self.assertEqual(store.picture(), ())


if __name__ == "__main__":
    unittest.main()
