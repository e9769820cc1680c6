"""Taking without moves: the hole a block goes to, rows of takings, and ready pictures."""

from whatmovesbuy.errors import NoRoom, Refused
from whatmovesbuy.pictures import check_picture, count_free, hole_rows
from whatmovesbuy.sizes import digits, need_size
from whatmovesbuy.words import is_number, is_sequence


def _find_hole(rows, level):
    """Return the first hole, (level, place), of this level or a greater one by the holes' rows; None without one."""
    for greater in range(level, len(rows)):
        if rows[greater]:
            return greater, rows[greater][0]
    return None


def least_hole(sizes, pages, picture, size):
    """Return the first hole, (level, place), of those that are great enough for a size; None without one."""
    picture = check_picture(sizes, pages, picture)
    level = need_size(sizes, size)
    return _find_hole(hole_rows(sizes, pages, picture), level)


def place_for(sizes, pages, picture, size):
    """Return the place of the least hole for a size; None without one."""
    hole = least_hole(sizes, pages, picture, size)
    if hole is None:
        return None
    return hole[1]


def _next_handle(picture):
    """Return the least number greater than all handles."""
    if not picture:
        return 0
    return picture[-1][0] + 1


def taken(sizes, pages, picture, size, handle=None):
    """Return the picture with one block more, at the place of the least hole for it."""
    picture = check_picture(sizes, pages, picture)
    place = place_for(sizes, pages, picture, size)
    least = _next_handle(picture)
    if handle is None:
        handle = least
    if not is_number(handle) or handle < least:
        raise Refused(handle)
    if place is None:
        raise NoRoom(size)
    return (*picture, (handle, size, place))


def _fill_hole(sizes, rows, level):
    """Return the place of the first hole for a block of this level, and change the rows as it takes it.

    NoRoom(size) if there is none.
    """
    hole = _find_hole(rows, level)
    if hole is None:
        raise NoRoom(sizes[level])
    broken, place = hole
    rows[broken].pop(0)
    for lower in range(level, broken):
        # There was no hole of these levels; the first child of each unit that is broken has the block.
        rows[lower] = list(range(place + sizes[lower], place + sizes[lower + 1], sizes[lower]))
    return place


def all_taken(sizes, pages, picture, row):
    """Return the picture behind the takings of all sizes of a row, in their order."""
    picture = check_picture(sizes, pages, picture)
    if not is_sequence(row):
        raise Refused(row)
    levels = [need_size(sizes, item) for item in row]
    rows = hole_rows(sizes, pages, picture)
    found = list(picture)
    handle = _next_handle(picture)
    for level in levels:
        found.append((handle, sizes[level], _fill_hole(sizes, rows, level)))
        handle += 1
    return tuple(found)


def bar(sizes, pages, picture):
    """Return the sizes that no store serves without moves at a picture that is not ready; None of a ready one."""
    picture = check_picture(sizes, pages, picture)
    rows = hole_rows(sizes, pages, picture)
    wanted = digits(sizes, count_free(sizes, pages, picture))
    found = []
    for level in reversed(range(len(sizes))):
        found.extend([sizes[level]] * wanted[level])
        if len(rows[level]) != wanted[level]:
            return tuple(found)
    return None


def is_ready(sizes, pages, picture):
    """Tell whether by level there are as many holes as the digits of the free cells tell."""
    return bar(sizes, pages, picture) is None
