"""Pages full of blocks in many ways, and what the tests count in them by themselves, cell by cell."""

import itertools
import random

# sizes and pages: of these all pictures are looked at
SMALL = (
    ((3,), (2, 5)), ((1, 2), (0, 4)), ((1, 2), (0, 1, 2)), ((2, 6), (1, 10 ** 31)), ((1, 2, 4), (0, 3)),
    ((1, 3, 6), (7,)), ((1, 2, 4, 8), (5,)), ((1, 2), ()), ((5, 15), (0,)),
)
# and of these some
GREAT = (
    ((1, 2, 6), (0, 1, 2)), ((1, 2, 4, 8), (0, 2, 3)), ((2, 4, 12, 24), (3, 4, 10 ** 30)), ((1, 2, 4, 8, 16), (0, 1, 5)),
    ((1, 3, 6, 12), (1, 2, 3, 4)), ((1, 4, 16), (0, 9, 10)), ((1, 64), (6, 7)), ((2,), (0, 1, 2, 3, 4)),
    ((1, 3), (0, 1, 2, 10 ** 31)),
)


def unit_fills(sizes, level, place):
    """All ways to fill a unit, each a tuple of (size, place)."""
    ways = [((sizes[level], place),)]
    if level == 0:
        return ways + [()]
    below = [unit_fills(sizes, level - 1, start) for start in range(place, place + sizes[level], sizes[level - 1])]
    return ways + [sum(parts, ()) for parts in itertools.product(*below)]


def some_fill(chance, sizes, level, place, full):
    """One way to fill a unit: full is how often, of ten times, what could be left free is not."""
    if chance.randrange(10) >= full and chance.randrange(3) > 0:
        return ()
    if level == 0 or chance.randrange(level + 2) == 0:
        return ((sizes[level], place),)
    starts = range(place, place + sizes[level], sizes[level - 1])
    return sum([some_fill(chance, sizes, level - 1, start, full) for start in starts], ())


def named(chance, fill):
    """A picture of these blocks: ascending handles with gaps, given to them in no order."""
    blocks = list(fill)
    chance.shuffle(blocks)
    handles = sorted(chance.sample(range(2 * len(blocks) + 3), len(blocks)))
    return tuple((handle, size, place) for handle, (size, place) in zip(handles, blocks))


def pictures_of(sizes, pages):
    """All pictures, but for handles, of these pages."""
    chance = random.Random(5)
    ways = [unit_fills(sizes, len(sizes) - 1, page * sizes[-1]) for page in pages]
    return [named(chance, sum(parts, ())) for parts in itertools.product(*ways)]


def some_pictures(sizes, pages, many, seed=1):
    """Some pictures of these pages, rather empty ones to full ones."""
    chance = random.Random(seed)
    found = []
    for at in range(many):
        fill = [some_fill(chance, sizes, len(sizes) - 1, page * sizes[-1], at % 11) for page in pages]
        found.append(named(chance, sum(fill, ())))
    return found


def all_worlds(many=60):
    """(sizes, pages, picture) of all pictures of small pages and of some of greater ones."""
    for sizes, pages in SMALL:
        for picture in pictures_of(sizes, pages):
            yield sizes, pages, picture
    for sizes, pages in GREAT:
        for picture in some_pictures(sizes, pages, many):
            yield sizes, pages, picture


def some_worlds(step, many=30):
    """Each so-and-so-many-th of these."""
    return itertools.islice(all_worlds(many), 0, None, step)


def cells(place, size):
    """The set of so many cells from a place on."""
    return set(range(place, place + size))


def page_cells(sizes, pages):
    """The set of all cells."""
    return set().union(*[cells(page * sizes[-1], sizes[-1]) for page in pages])


def held_set(picture):
    """The set of the held cells."""
    return set().union(*[cells(place, size) for handle, size, place in picture])


def free_set(sizes, pages, picture):
    """The set of the free cells."""
    return page_cells(sizes, pages) - held_set(picture)


def unit_row(sizes, pages, level):
    """The places of the units of a level, ascending, found among all cells."""
    return [cell for cell in sorted(page_cells(sizes, pages)) if cell % sizes[level] == 0]


def free_row(sizes, pages, picture, level):
    """The places of the free units of a level, ascending."""
    free = free_set(sizes, pages, picture)
    return [place for place in unit_row(sizes, pages, level) if cells(place, sizes[level]) <= free]


def hole_row(sizes, pages, picture):
    """The holes, (level, place), ascending: free units that are in no greater free unit."""
    found, covered = [], set()
    for level in reversed(range(len(sizes))):
        for place in free_row(sizes, pages, picture, level):
            if place not in covered:
                found.append((level, place))
                covered |= cells(place, sizes[level])
    return sorted(found)


def torn_row(sizes, pages, picture, level):
    """(place, how many children are free) of each torn unit of the level above, ascending."""
    free = free_set(sizes, pages, picture)
    found = []
    for place in unit_row(sizes, pages, level + 1):
        starts = range(place, place + sizes[level + 1], sizes[level])
        many = sum(1 for start in starts if cells(start, sizes[level]) <= free)
        if many and not cells(place, sizes[level + 1]) <= free:
            found.append((place, many))
    return found


def loose_row(sizes, pages, picture):
    """The levels at which a picture is loose."""
    return [level for level in range(len(sizes) - 1) if len(torn_row(sizes, pages, picture, level)) > 1]


def digit_row(sizes, number):
    """The digits of a number of cells, as many of the greatest size first as there can be."""
    found = ()
    for size in sizes[::-1]:
        found = (number // size,) + found
        number %= size
    return found
