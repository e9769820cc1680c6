"""Moves at giving back alone: a store, and the foe of all stores that move less there."""

from whatmovesbuy.errors import NoRoom, Refused
from whatmovesbuy.sizes import check_pages, check_sizes, need_size, ratios
from whatmovesbuy.takes import bar
from whatmovesbuy.words import in_tuples
from whatmovesbuy.yard import Yard


def eager_need(sizes):
    """Return how many cells must be let move at giving back: all sizes but the greatest, added up."""
    return sum(check_sizes(sizes)[:-1])


class Eager:
    """A store that moves blocks behind giving back alone, until its picture is smooth."""

    def __init__(self, sizes, pages):
        self.sizes = check_sizes(sizes)
        self.pages = check_pages(pages)
        self._yard = Yard(self.sizes, ())
        self._next = 0

    def picture(self):
        """Return the picture of the blocks that are there."""
        return self._yard.picture()

    def room(self):
        """Return how many cells are free."""
        return len(self.pages) * self.sizes[-1] - self._yard.held

    def take(self, size):
        """Put a block of this size into the least hole that is great enough; return its handle and no moves."""
        need_size(self.sizes, size)
        place = self._yard.place_for(size, self.pages)
        if place is None:
            raise NoRoom(size)
        handle = self._next
        self._yard.put(handle, size, place)
        self._next += 1
        return handle, ()

    def give(self, handle):
        """Take the block with this handle out, then make the picture smooth; return the moves."""
        self._yard.need(handle)
        self._yard.drop(handle)
        return self._yard.serve_moves(None)


def _but_one(sizes, level):
    """Return, level by level from this one on, one fewer of its size than make one of the next size."""
    limits = ratios(sizes)
    found = []
    for lower in range(level, len(limits)):
        found.extend([sizes[lower]] * (limits[lower] - 1))
    return found


def eager_plan(sizes, pages):
    """Return the sizes that the foe takes first."""
    told = check_sizes(sizes)
    pages_told = check_pages(pages)
    if len(told) == 1:
        raise Refused(sizes)
    if len(pages_told) < len(told):
        raise Refused(pages)
    found = [told[0]] + _but_one(told, 0)
    for level in range(len(told) - 1):
        found.append(told[level])
        found.extend(_but_one(told, level + 1))
    found.extend([told[-1]] * (len(pages_told) - len(told)))
    return tuple(found)


def eager_many(sizes, pages):
    """Return how many requests the foe makes at most."""
    eager_plan(sizes, pages)
    return len(pages) * sizes[-1] // sizes[0] + 3


def eager_request(sizes, pages, picture):
    """Return the foe's request at a picture; None if it has none."""
    plan = eager_plan(sizes, pages)
    # This looks at the picture.
    barred = bar(sizes, pages, picture)
    if barred is not None:
        return "take", barred[0]
    if len(picture) > len(plan) or (picture and picture[0][0] != 0):
        return None
    if len(picture) == len(plan):
        return "give", 0
    return "take", plan[len(picture)]


def eager_beaten(store):
    """Ask a store as the foe does; return ("refused", turn, size, picture) at its first refusal, None without one."""
    # The foe of a store is done within these turns; what answers like none must not keep it asking.
    for turn in range(eager_many(store.sizes, store.pages)):
        request = eager_request(store.sizes, store.pages, store.picture())
        if request is None:
            return None
        deed, number = request
        if deed == "give":
            store.give(number)
            continue
        try:
            store.take(number)
        except NoRoom:
            return "refused", turn, number, in_tuples(store.picture())
    return None
