"""Stories for tests: of keepers and of stores by choices, and a second way to look at them."""

import random

from tests.rows import some_requests
from whatmovesbuy.errors import BadPicture, BadRun, NoBlock, NoRoom, Refused
from whatmovesbuy.judges import follow
from whatmovesbuy.keeper import Keeper
from whatmovesbuy.moves import cost, moved
from whatmovesbuy.pictures import block_of, check_picture, held_cells, without
from whatmovesbuy.plain import Plain, Wild
from whatmovesbuy.sizes import check_request

WORLDS = (((1, 2), (0, 1)), ((1, 2, 4), (0, 3)), ((2, 6), (1, 10 ** 31)), ((1, 3, 6), (0, 1, 2)), ((5,), (0, 7)),
          ((1, 2, 4, 8), (4, 5)))


def requests_for(sizes, pages, many, seed):
    """A row of requests for stores of these sizes and pages, some of which are refused."""
    chance = random.Random(seed)
    keeper, held, row = Keeper(sizes, pages), {}, []
    for deed, number in some_requests(chance, keeper, keeper.room, many, held):
        if chance.randrange(8) == 0:
            row.append(chance.choice((("take", chance.choice(sizes)), ("give", chance.randrange(keeper.taken + 2)))))
        # as far as a store serves what was asked ahead, it has these handles, too
        row.append((deed, number))
        if deed == "take":
            held[keeper.take(number)[0]] = number
        else:
            keeper.give(number)
            del held[number]
    return tuple(row)


def stores_of(sizes, pages, seed):
    """Stores of some kinds."""
    chance = random.Random(seed)
    choices = [chance.randrange(9) for _ in range(150)]
    yield Keeper(sizes, pages)
    yield Plain(sizes, pages, choices)
    yield Wild(sizes, pages, sizes[-1], choices)
    yield Listing(Wild(sizes, pages, 10, choices[::-1]))


def some_stories(many=40):
    """(sizes, pages, requests, story) of many stores."""
    for at, (sizes, pages) in enumerate(WORLDS):
        requests = requests_for(sizes, pages, many, at)
        for store in stores_of(sizes, pages, at):
            yield sizes, pages, requests, follow(store, requests)


class Listing:
    """A store of the tests' own: it tells lists, and refuses whatever its whim tells."""

    def __init__(self, store, whims=()):
        self.sizes, self.pages, self.store, self.whims, self.asked = list(store.sizes), list(store.pages), store, whims, 0

    def picture(self):
        """The store's, in lists."""
        return [list(block) for block in self.store.picture()]

    def take(self, size):
        """The store's, in lists; refused at a whim."""
        self.asked += 1
        if self.asked - 1 in self.whims:
            raise NoRoom(size)
        handle, moves = self.store.take(size)
        return [handle, [list(move) for move in moves]]

    def give(self, handle):
        """The store's, in lists."""
        self.asked += 1
        return [list(move) for move in self.store.give(handle)]


def is_row(value, many):
    """Whether a value is a list or a tuple of so many items."""
    return isinstance(value, (list, tuple)) and len(value) == many


def step_on(sizes, pages, picture, handle, entry):
    """(picture behind, next handle, cells moved) behind an entry; None if it cannot have been."""
    if not is_row(entry, 2):
        return None
    request, told = entry
    try:
        deed, number = check_request(sizes, request)
    except Refused:
        return None
    there = number in [block[0] for block in picture]
    if told is None:
        return (picture, handle, 0) if deed == "take" or not there else None
    try:
        if deed == "give":
            if not there or not is_row(told, 2):
                return None
            ahead = without(sizes, pages, picture, number)
            after = check_picture(sizes, pages, told[1])
            return (after, handle, cost(sizes, pages, ahead, told[0])) \
                if moved(sizes, pages, ahead, told[0]) == after else None
        if not is_row(told, 3) or type(told[0]) is not int or told[0] != handle:
            return None
        after = check_picture(sizes, pages, told[2])
        if block_of(sizes, pages, after, handle)[1] != number:
            return None
        if without(sizes, pages, after, handle) != moved(sizes, pages, picture, told[1]):
            return None
        return after, handle + 1, cost(sizes, pages, picture, told[1])
    except (BadPicture, BadRun, NoBlock):
        return None


def look(sizes, pages, story):
    """(index of the first entry that cannot have been or None, (cells moved, cells held) of those ahead of it)."""
    picture, handle, rows = (), 0, []
    for at, entry in enumerate(story):
        told = step_on(sizes, pages, picture, handle, entry)
        if told is None:
            return at, rows
        picture, handle, paid = told
        rows.append((paid, held_cells(sizes, pages, picture)))
    return None, rows
