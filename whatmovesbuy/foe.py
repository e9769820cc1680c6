"""The foe: requests by which whoever moves less than the second greatest size is beaten."""

from whatmovesbuy.errors import NoRoom, Refused
from whatmovesbuy.pictures import check_picture, unit_places
from whatmovesbuy.sizes import check_pages, check_sizes, sizes_that_count
from whatmovesbuy.words import in_tuples, is_number


def arena(sizes, pages):
    """Return the small size, the great size, and the places of the great units; Refused(sizes) if there is none."""
    told = check_sizes(sizes)
    pages = check_pages(pages)
    counting, _ = sizes_that_count(told, pages)
    if len(counting) == 1 or not pages:
        raise Refused(sizes)
    return counting[-2], counting[-1], tuple(unit_places(told, pages, len(counting) - 1))


def _phases(small, great, places):
    """Return the turn in which the foe begins to give back, and that of its last request."""
    many = great // small
    return len(places) * many, len(places) * many + many


def foe_many(sizes, pages):
    """Return how many requests the foe makes."""
    small, great, places = arena(sizes, pages)
    return _phases(small, great, places)[1] + 1


def _first_block(picture, size, place):
    """Return the handle of the block of least place that begins in so many cells from a place on."""
    starts = sorted([(start, handle) for handle, _, start in picture if place <= start < place + size])
    if not starts:
        raise Refused(picture)
    return starts[0][1]


def foe_request(sizes, pages, turn, picture):
    """Return the foe's request in this turn, by the picture that it sees."""
    small, great, places = arena(sizes, pages)
    giving, last = _phases(small, great, places)
    if not is_number(turn) or turn > last:
        raise Refused(turn)
    check_picture(sizes, pages, picture)
    if turn < giving:
        return "take", small
    if turn == last:
        return "take", great
    # One block goes out of the first great unit, all others out of the second one: so none of the two comes free.
    unit = places[0] if turn == giving else places[1]
    return "give", _first_block(picture, great, unit)


def beaten(store):
    """Ask a store as the foe does; return ("refused", turn, size, picture) at its first refusal, None without one."""
    small, great, places = arena(store.sizes, store.pages)
    giving, last = _phases(small, great, places)
    for turn in range(last + 1):
        # Where the foe takes, it need not see the picture.
        picture = store.picture() if giving <= turn < last else ()
        deed, number = foe_request(store.sizes, store.pages, turn, picture)
        if deed == "give":
            store.give(number)
            continue
        try:
            store.take(number)
        except NoRoom:
            return "refused", turn, number, in_tuples(store.picture())
    return None
