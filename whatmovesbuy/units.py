"""Torn units: smooth and loose pictures, their kinds, and the digits of what is free."""

from whatmovesbuy.errors import Refused
from whatmovesbuy.pictures import check_picture, child_places, count_free, held_units, hole_rows, need_unit
from whatmovesbuy.sizes import digits
from whatmovesbuy.words import is_number


def free_children(sizes, pages, picture, level, place):
    """Return the places of the free children of a unit, ascending."""
    picture = check_picture(sizes, pages, picture)
    need_unit(sizes, pages, level, place)
    if level == 0:
        return ()
    held = held_units(sizes, picture, level - 1)
    return tuple([child for child in child_places(sizes, level, place) if child not in held])


def need_level_below(sizes, level):
    """Return a level below the greatest; Refused(level) for any other value."""
    if not is_number(level) or level >= len(sizes) - 1:
        raise Refused(level)
    return level


def torn_above(sizes, picture, level):
    """Return (place, how many children are free) of each torn unit of the level above, ascending."""
    held = held_units(sizes, picture, level)
    found = []
    for place in sorted(held_units(sizes, picture, level + 1)):
        many = len([child for child in child_places(sizes, level + 1, place) if child not in held])
        if many > 0:
            found.append((place, many))
    return found


def torn_units(sizes, pages, picture, level):
    """Return (place, how many children are free) of each torn unit of the level above, ascending."""
    picture = check_picture(sizes, pages, picture)
    return tuple(torn_above(sizes, picture, need_level_below(sizes, level)))


def torn(sizes, pages, picture, level):
    """Return the places of the torn units of the level above this one, ascending."""
    return tuple([place for place, _ in torn_units(sizes, pages, picture, level)])


def _torn_rows(sizes, picture):
    """Return by level below the greatest the torn units of the level above."""
    return [torn_above(sizes, picture, level) for level in range(len(sizes) - 1)]


def _loose(rows):
    """Return the levels above which more than one unit is torn, ascending."""
    return [level for level, row in enumerate(rows) if len(row) > 1]


def loose_levels(sizes, pages, picture):
    """Return the levels at which a picture is loose, ascending."""
    picture = check_picture(sizes, pages, picture)
    return tuple(_loose(_torn_rows(sizes, picture)))


def is_smooth(sizes, pages, picture):
    """Tell whether a picture is loose at no level."""
    return not loose_levels(sizes, pages, picture)


def loose_steps(sizes, pages, picture, level):
    """Return how many children must at least be moved for at most one unit of the level above to be torn."""
    rows = torn_units(sizes, pages, picture, level)
    counts = sorted([many for _, many in rows], reverse=True)
    ratio = sizes[level + 1] // sizes[level]
    # As many children stay free: in the end they are so many whole units, and the rest in one unit more.
    whole = sum(counts) // ratio
    rest = sum(counts) - whole * ratio
    steps = whole * ratio - sum(counts[:whole])
    if whole < len(counts) and rest > counts[whole]:
        steps += rest - counts[whole]
    return steps


def kind_of(rows):
    """Return the kind of the picture whose torn units these are, by level below the greatest; None without one."""
    loose = _loose(rows)
    if not loose:
        return "smooth"
    below_pages = len(rows) - 1
    if len(loose) > 1 or below_pages == 0 or rows[below_pages - 1]:
        return None
    counts = [many for _, many in rows[loose[0]]]
    if len(counts) != 2 or 1 not in counts:
        return None
    # No unit one level below the pages is torn, so what is loose is loose either right below the pages or deeper.
    if loose[0] == below_pages:
        return "page"
    return "deep"


def kind(sizes, pages, picture):
    """Return "smooth", "page" or "deep", None of a picture of no kind."""
    picture = check_picture(sizes, pages, picture)
    return kind_of(_torn_rows(sizes, picture))


def hole_counts(sizes, pages, picture):
    """Return by level how many holes there are."""
    picture = check_picture(sizes, pages, picture)
    return tuple([len(row) for row in hole_rows(sizes, pages, picture)])


def free_digits(sizes, pages, picture):
    """Return the digits of the free cells."""
    picture = check_picture(sizes, pages, picture)
    return digits(sizes, count_free(sizes, pages, picture))
