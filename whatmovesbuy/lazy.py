"""Moves at taking alone: a store, and the foe of all stores that move too little there."""

from whatmovesbuy.errors import NoRoom, Refused
from whatmovesbuy.gather import gather, gather_most
from whatmovesbuy.pictures import check_picture, place_about
from whatmovesbuy.sizes import check_pages, check_sizes, need_counting, need_size
from whatmovesbuy.words import in_tuples, is_number
from whatmovesbuy.yard import Yard


class Lazy:
    """A store that moves blocks ahead of taking alone, to gather the unit that the new block goes to."""

    def __init__(self, sizes, pages):
        self.sizes = check_sizes(sizes)
        self.pages = check_pages(pages)
        self._yard = Yard(self.sizes, ())
        self._next = 0

    def picture(self):
        """Return the picture of the blocks that are there."""
        return self._yard.picture()

    def room(self):
        """Return how many cells are free."""
        return len(self.pages) * self.sizes[-1] - self._yard.held

    def take(self, size):
        """Gather a unit of this size and put a block there; return its handle and the moves."""
        # Gathering is what refuses if too few cells are free.
        moves, place = gather(self._yard, self.pages, need_size(self.sizes, size))
        handle = self._next
        self._yard.put(handle, size, place)
        self._next += 1
        return handle, moves

    def give(self, handle):
        """Take the block with this handle out; return no moves."""
        self._yard.need(handle)
        self._yard.drop(handle)
        return ()


def least_at_taking(sizes, many):
    """Return how many cells must be let move at taking, by the sizes that count and how many greatest units there are.

    These have been looked at.
    """
    # Of as many least units as make a greatest one, some greatest unit has at least its share.
    share = (sizes[-1] // sizes[0] + many - 1) // many
    return sizes[-1] - sizes[0] * share


def lazy_bounds(sizes, pages):
    """Return what must be let move at taking at least, and what is enough."""
    counting, many = need_counting(sizes, pages)
    least = least_at_taking(counting, many)
    if len(counting) < 3:
        return least, least
    return least, gather_most(counting, len(counting) - 1)


def _phases(sizes, pages):
    """Return the sizes that count, the turn in which the foe begins to give back, and that of its last request."""
    counting, many = need_counting(sizes, pages)
    if len(counting) == 1:
        raise Refused(sizes)
    share = counting[-1] // counting[0]
    return counting, many * share, (many + 1) * share


def lazy_many(sizes, pages):
    """Return how many requests the foe makes."""
    return _phases(sizes, pages)[2] + 1


def _first_of_most(sizes, level, picture):
    """Return the handle of the block of least place in the unit of a level in which most blocks begin.

    Refused(picture) if there is no block.
    """
    begun = {}
    for handle, _, place in picture:
        begun.setdefault(place_about(sizes, level, place), []).append((place, handle))
    if not begun:
        raise Refused(picture)
    unit = max(sorted(begun), key=lambda about: len(begun[about]))
    return min(begun[unit])[1]


def lazy_request(sizes, pages, turn, picture):
    """Return the foe's request in this turn, by the picture that it sees."""
    counting, giving, last = _phases(sizes, pages)
    if not is_number(turn) or turn > last:
        raise Refused(turn)
    check_picture(sizes, pages, picture)
    if turn < giving:
        return "take", counting[0]
    if turn == last:
        return "take", counting[-1]
    return "give", _first_of_most(counting, len(counting) - 1, picture)


def lazy_beaten(store):
    """Ask a store as the foe does; return ("refused", turn, size, picture) at its first refusal, None without one."""
    _, giving, last = _phases(store.sizes, store.pages)
    for turn in range(last + 1):
        # Where the foe takes, it need not see the picture.
        picture = store.picture() if giving <= turn < last else ()
        deed, number = lazy_request(store.sizes, store.pages, turn, picture)
        if deed == "give":
            store.give(number)
            continue
        try:
            store.take(number)
        except NoRoom:
            return "refused", turn, number, in_tuples(store.picture())
    return None
