"""Small worlds by force: whether any store at all keeps so many cells by so many moves.

A unit is told by its children, ascending, so that those that just change places tell it alike. The whole world is told
as if it were one more unit, whose children are the pages. A unit's limits are by level below its own how many children
each unit of the next level has.
"""

from heapq import heappop, heappush

from whatmovesbuy.errors import Refused
from whatmovesbuy.sizes import check_pages, check_sizes, ratios
from whatmovesbuy.words import need_number

MOST_CELLS = 12
WHENS = ("request", "giving", "taking")
FREE = ()
# One block holds the whole unit. It has the form of no unit with children, as these are two at least below the world.
HELD = ((),)


def _children(limits, unit):
    """Return the children of a unit that isn't held by one block, in a list."""
    if unit == FREE:
        return [FREE] * limits[-1]
    return list(unit)


def _unit_of(children):
    """Return the unit with these children."""
    if all([child == FREE for child in children]):
        return FREE
    return tuple(sorted(children))


def _changed(limits, unit, wanted, one, other):
    """Return all units in which one, a unit of the wanted level, free or held by a block, has become the other.

    Each is told once. The unit's level is how many limits there are.
    """
    if len(limits) == wanted:
        return [other] if unit == one else []
    if unit == HELD:
        return []
    children = _children(limits, unit)
    found = {}
    for at, child in enumerate(children):
        for changed in _changed(limits[:-1], child, wanted, one, other):
            found[_unit_of([*children[:at], changed, *children[at + 1:]])] = True
    return list(found)


class World:
    """The pictures of some pages, and what one request can make of them."""

    def __init__(self, sizes, many, cells, moves):
        self.sizes = sizes
        self.limits = (*ratios(sizes), many)
        self.cells = cells
        self.moves = moves
        # By picture those that one move leads to, each with its cost; and those that all moves of a request lead to.
        self._near = {}
        self._reach = {}

    def with_one(self, picture, level):
        """Return all pictures with one block of this level more."""
        return _changed(self.limits, picture, level, FREE, HELD)

    def less_one(self, picture, level):
        """Return all pictures with one block of this level less."""
        return _changed(self.limits, picture, level, HELD, FREE)

    def pictures(self):
        """Return by picture how many cells it holds, of all that hold at most the told cells."""
        found = {FREE: 0}
        rest = [FREE]
        while rest:
            picture = rest.pop()
            for level, size in enumerate(self.sizes):
                held = found[picture] + size
                if held > self.cells:
                    break
                for greater in self.with_one(picture, level):
                    if greater not in found:
                        found[greater] = held
                        rest.append(greater)
        return found

    def near(self, picture):
        """Return (cost, picture behind) of all moves of one block."""
        if picture not in self._near:
            found = {}
            for level, size in enumerate(self.sizes):
                for lesser in self.less_one(picture, level):
                    for behind in self.with_one(lesser, level):
                        found[(size, behind)] = True
            self._near[picture] = list(found)
        return self._near[picture]

    def reach(self, picture):
        """Return the pictures that moves of a request lead to, the picture itself among them."""
        if picture not in self._reach:
            paid = {picture: 0}
            rest = [(0, picture)]
            while rest:
                spent, now = heappop(rest)
                for size, behind in self.near(now):
                    total = spent + size
                    if total <= self.moves and total < paid.get(behind, total + 1):
                        paid[behind] = total
                        heappush(rest, (total, behind))
            self._reach[picture] = list(paid)
        return self._reach[picture]

    def answers(self, picture, held, when):
        """Return of each request at a picture all pictures that it can lead to."""
        ahead = [picture] if when == "giving" else self.reach(picture)
        found = []
        for level, size in enumerate(self.sizes):
            if held + size <= self.cells:
                found.append([behind for start in ahead for behind in self.with_one(start, level)])
            for lesser in self.less_one(picture, level):
                found.append([lesser] if when == "taking" else self.reach(lesser))
        return found


def _all_among(pictures, lost):
    """Tell whether all of some pictures, perhaps none, are lost."""
    for picture in pictures:
        if picture not in lost:
            return False
    return True


def _lost(rows):
    """Return the lost pictures as the keys of a dict, by what each request can lead to, by picture."""
    lost = {}
    many = -1
    while len(lost) > many:
        many = len(lost)
        for picture, answers in rows.items():
            if any([_all_among(row, lost) for row in answers]):
                lost[picture] = True
    return lost


def need_when(value):
    """Return when blocks may be moved; Refused(value) for any value that is none of the three times."""
    if value not in WHENS:
        raise Refused(value)
    return value


def keeps(sizes, pages, cells, moves, when):
    """Tell whether some store refuses nothing by which at most so many cells are held, by so many moves."""
    sizes = check_sizes(sizes)
    many = len(check_pages(pages))
    there = many * sizes[-1]
    if not 0 < there <= MOST_CELLS:
        raise Refused(pages)
    most = min(need_number(cells), there)
    world = World(sizes, many, most, need_number(moves))
    need_when(when)
    rows = {picture: world.answers(picture, held, when) for picture, held in world.pictures().items()}
    return FREE not in _lost(rows)
