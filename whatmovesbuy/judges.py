"""Stories of stores: what can have been, what they show of a store, and a store out of a story."""

from whatmovesbuy.errors import NoBlock, NoRoom, Refused
from whatmovesbuy.moves import is_move
from whatmovesbuy.pictures import is_unit
from whatmovesbuy.sizes import check_pages, check_requests, check_sizes, is_request
from whatmovesbuy.words import in_tuples, is_number, is_sequence, need_number
from whatmovesbuy.yard import Yard


def _told_by(store, request):
    """Return what a store tells to a request, None if it refuses."""
    deed, number = request
    try:
        if deed == "take":
            told = store.take(number)
        else:
            told = (store.give(number),)
    except (NoRoom, NoBlock):
        return None
    return in_tuples((*told, store.picture()))


def follow(store, requests):
    """Ask a store for all requests, one by one; return its story."""
    asked = check_requests(store.sizes, requests)
    return tuple([(request, _told_by(store, request)) for request in asked])


def _can_stand(yard, pages, size, place):
    """Tell whether a block of a size can stand at any place."""
    level = yard.sizes.index(size)
    return is_unit(yard.sizes, pages, level, place) and yard.is_free(level, place)


def _make_moves(yard, pages, moves):
    """Make any value as a row of moves; return its cost, None as soon as something is no move or can't be made."""
    if not is_sequence(moves):
        return None
    paid = 0
    for move in moves:
        if not is_move(move) or move[0] not in yard.blocks:
            return None
        handle, to = move
        size = yard.blocks[handle][1]
        if not _can_stand(yard, pages, size, to):
            return None
        yard.shift(handle, to)
        paid += size
    return paid


def _is_row_of(value, many):
    """Tell whether any value is a sequence of so many items."""
    return is_sequence(value) and len(value) == many


def _shows(picture, shown):
    """Tell whether any value is this picture."""
    if not _is_row_of(shown, len(picture)):
        return False
    for block, item in zip(picture, shown):
        # A bool is equal to a number for Python; here it is none.
        if not _is_row_of(item, 3) or tuple(item) != block or not all([is_number(part) for part in item]):
            return False
    return True


def _take_told(yard, pages, handle, size, told):
    """Go on behind a block taken with the next handle; return how many cells were moved, None if it cannot be so."""
    if not _is_row_of(told, 3) or not is_number(told[0]) or told[0] != handle:
        return None
    paid = _make_moves(yard, pages, told[1])
    if paid is None or not _is_row_of(told[2], len(yard.blocks) + 1):
        return None
    # The handle is the greatest, so its block is the last one.
    block = told[2][-1]
    if not _is_row_of(block, 3) or not _can_stand(yard, pages, size, block[2]):
        return None
    yard.put(handle, size, block[2])
    if not _shows(yard.picture(), told[2]):
        return None
    return paid


def _give_told(yard, pages, handle, told):
    """Go on behind a block given back; return how many cells were moved, None if it cannot be so."""
    if not _is_row_of(told, 2) or handle not in yard.blocks:
        return None
    yard.drop(handle)
    paid = _make_moves(yard, pages, told[0])
    if paid is None or not _shows(yard.picture(), told[1]):
        return None
    return paid


def _go_on(yard, pages, handle, entry):
    """Go on behind any value as an entry, the next handle being this; return how many cells were moved.

    None if the entry cannot have been.
    """
    if not _is_row_of(entry, 2) or not is_request(yard.sizes, entry[0]):
        return None
    deed, number = entry[0]
    told = entry[1]
    if told is None:
        if deed == "give" and number in yard.blocks:
            return None
        return 0
    if deed == "take":
        return _take_told(yard, pages, handle, number, told)
    return _give_told(yard, pages, number, told)


def _rows(sizes, pages, story):
    """Return (request, whether it was refused, cells moved, cells held behind) of each entry that can have been.

    The first that cannot have been ends the row. Refused(story) for any value that is no sequence.
    """
    sizes = check_sizes(sizes)
    pages = check_pages(pages)
    if not is_sequence(story):
        raise Refused(story)
    yard = Yard(sizes, ())
    handle = 0
    found = []
    for entry in story:
        paid = _go_on(yard, pages, handle, entry)
        if paid is None:
            break
        refused = entry[1] is None
        if entry[0][0] == "take" and not refused:
            handle += 1
        found.append((entry[0], refused, paid, yard.held))
    return found


def wrong_at(sizes, pages, story):
    """Return the index of the first entry that cannot have been; None if all can."""
    many = len(_rows(sizes, pages, story))
    if many == len(story):
        return None
    return many


def _right_rows(sizes, pages, story):
    """Return what _rows does; Refused(story) also if some entry cannot have been."""
    found = _rows(sizes, pages, story)
    if len(found) < len(story):
        raise Refused(story)
    return found


def measures(sizes, pages, story):
    """Return by entry how many cells were moved, and how many are held behind it."""
    return tuple([(paid, held) for _, _, paid, held in _right_rows(sizes, pages, story)])


def costs(sizes, pages, story):
    """Return by entry how many cells were moved."""
    return tuple([paid for paid, _ in measures(sizes, pages, story)])


def held_row(sizes, pages, story):
    """Return by entry how many cells are held behind it."""
    return tuple([held for _, held in measures(sizes, pages, story)])


def _wanted(row):
    """Return how many cells would have been held behind a refusal to take; None of any other entry."""
    request, refused, _, held = row
    if request[0] == "take" and refused:
        return held + request[1]
    return None


def refusals(sizes, pages, story):
    """Return of each refusal to take its index, and how many cells would have been held."""
    wanted = [_wanted(row) for row in _right_rows(sizes, pages, story)]
    return tuple([(at, many) for at, many in enumerate(wanted) if many is not None])


def _need_mosts(mosts):
    """Raise Refused(mosts) for any value that is no pair of numbers."""
    if not _is_row_of(mosts, 2) or not is_number(mosts[0]) or not is_number(mosts[1]):
        raise Refused(mosts)


def _fault(cells, mosts, at, row):
    """Return what a possible entry shows against a store that is to keep so many cells; None if nothing."""
    request, _, paid, _ = row
    most = mosts[0] if request[0] == "take" else mosts[1]
    if paid > most:
        return "dear", at, paid
    wanted = _wanted(row)
    if wanted is not None and wanted <= cells:
        return "lost", at, wanted
    return None


def judged(sizes, pages, cells, mosts, story):
    """Return what a story shows of a store that is to keep so many cells by moves of at most so many at a request."""
    sizes = check_sizes(sizes)
    pages = check_pages(pages)
    need_number(cells)
    _need_mosts(mosts)
    rows = _rows(sizes, pages, story)
    for at, row in enumerate(rows):
        fault = _fault(cells, mosts, at, row)
        if fault is not None:
            return fault
    if len(rows) < len(story):
        return "wrong", len(rows)
    paid = [row[2] for row in rows]
    return "kept", max(paid, default=0), sum(paid)


class Retold:
    """A store that answers as a story tells, entry by entry."""

    def __init__(self, sizes, pages, story):
        self.sizes = check_sizes(sizes)
        self.pages = check_pages(pages)
        _right_rows(sizes, pages, story)
        self._story = in_tuples(story)
        self._next = 0
        self._picture = ()

    def picture(self):
        """Return the picture behind what was asked."""
        return self._picture

    def _answer(self, deed, number):
        """Return what is told to this request, and go on behind its entry.

        Refused(number) for any value with which this isn't the request of the next entry.
        """
        if self._next == len(self._story) or not is_number(number):
            raise Refused(number)
        request, told = self._story[self._next]
        if request != (deed, number):
            raise Refused(number)
        self._next += 1
        if told is not None:
            self._picture = told[-1]
        return told

    def take(self, size):
        """Return the handle and the moves that the story tells."""
        told = self._answer("take", size)
        if told is None:
            raise NoRoom(size)
        return told[:2]

    def give(self, handle):
        """Return the moves that the story tells."""
        told = self._answer("give", handle)
        if told is None:
            raise NoBlock(handle)
        return told[0]
