"""Gathering: the holes that are there are brought together to one free unit, and what nothing can do without."""

from whatmovesbuy.errors import NoRoom, Refused
from whatmovesbuy.pictures import check_picture, child_places, count_free, place_about
from whatmovesbuy.sizes import check_sizes, need_level, ratios
from whatmovesbuy.yard import Yard


def gather_most(sizes, level):
    """Return how many cells gathering a unit of this level moves at most."""
    sizes = check_sizes(sizes)
    great = sizes[need_level(sizes, level)]
    return sum([(sizes[lower + 1] - sizes[lower]) * (great // sizes[lower + 1]) for lower in range(level)])


def _choose(yard, level):
    """Return the chosen holes, (level, place), of a yard for a unit of this level; NoRoom(size) if they are too few."""
    found = []
    left = yard.sizes[level]
    for lower in reversed(range(level)):
        # What is left is a multiple of this size, as it is one of all greater sizes.
        most = left // yard.sizes[lower]
        row = yard.hole_places(lower)[:most]
        found.extend([(lower, place) for place in row])
        left -= len(row) * yard.sizes[lower]
    if left > 0:
        raise NoRoom(yard.sizes[level])
    return found


def chosen(sizes, pages, picture, level):
    """Return the holes below a level that are to be brought together, (level, place), the greatest first."""
    sizes = check_sizes(sizes)
    picture = check_picture(sizes, pages, picture)
    return tuple(_choose(Yard(sizes, picture), need_level(sizes, level)))


def _giver_and_taker(counts):
    """Return the unit that gives and the one that takes, by how many chosen children each has that has some to go."""
    places = sorted(counts)
    # Of several the first one is found, which is the one of least place.
    giver = max(places, key=lambda about: counts[about])
    taker = min([place for place in places if place != giver], key=lambda about: counts[about])
    return giver, taker


def _fill_units(yard, lower, places):
    """Move blocks until the chosen units of a level, at these places, are whole units of the next one.

    Return the moves, and the places of these greater units.
    """
    within = {}
    for place in places:
        about = place_about(yard.sizes, lower + 1, place)
        if about not in within:
            within[about] = {}
        within[about][place] = True
    ratio = ratios(yard.sizes)[lower]
    made = []
    while True:
        counts = {unit: len(within[unit]) for unit in within if 0 < len(within[unit]) < ratio}
        if not counts:
            break
        giver, taker = _giver_and_taker(counts)
        given = [child for child in child_places(yard.sizes, lower + 1, giver) if child not in within[giver]][0]
        to = min(list(within[taker]))
        moves = yard.unit_moves(lower, given, to)
        yard.make(moves)
        made.extend(moves)
        del within[taker][to]
        within[giver][given] = True
    return made, [unit for unit in within if within[unit]]


def gather(yard, pages, level):
    """Move blocks of a yard until a unit of this level is free; return the moves and its place.

    NoRoom(size) if too few cells are free.
    """
    place = yard.place_for(yard.sizes[level], pages)
    if place is not None:
        return (), place
    holes = _choose(yard, level)
    made = []
    places = []
    for lower in range(level):
        places.extend([start for at, start in holes if at == lower])
        moves, places = _fill_units(yard, lower, places)
        made.extend(moves)
    return tuple(made), places[0]


def gathered(sizes, pages, picture, level):
    """Return the moves behind which a unit of this level is free, and its place."""
    sizes = check_sizes(sizes)
    picture = check_picture(sizes, pages, picture)
    return gather(Yard(sizes, picture), pages, need_level(sizes, level))


def _must_leave(sizes, picture, level):
    """Return how many cells blocks of just this level must leave for a page to come free."""
    counts = {}
    held = 0
    for _, size, place in picture:
        if size <= sizes[level]:
            about = place_about(sizes, level + 1, place)
            counts[about] = counts.get(about, 0) + (size if size == sizes[level] else 0)
            held += size
    # In the end all pages but one are full, so these blocks fill as many units as their cells make.
    lost = len(counts) - held // sizes[level + 1]
    return sum(sorted(list(counts.values()))[:lost])


def gather_least(sizes, pages, picture):
    """Return how many cells must at least stand elsewhere for a page to be free, if just one page's cells are free."""
    told = check_picture(sizes, pages, picture)
    if count_free(sizes, pages, told) != sizes[-1]:
        raise Refused(picture)
    return sum([_must_leave(sizes, told, level) for level in range(len(sizes) - 1)])


def spread(sizes):
    """Return the pages and the picture in which gathering a page takes most."""
    sizes = check_sizes(sizes)
    pages = tuple(range(sizes[-1] // sizes[0]))
    # In each page the first block of a size stands where the blocks ahead of it and the free unit make one of it.
    stands = [(size, start) for size, greater in zip(sizes, sizes[1:]) for start in range(size, greater, size)]
    places = [(size, page * sizes[-1] + start) for page in pages for size, start in stands]
    return pages, tuple([(handle, size, place) for handle, (size, place) in enumerate(places)])
