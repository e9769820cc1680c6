"""Pages that come and go: a store that has as few pages as its cells need."""

from whatmovesbuy.errors import NoRoom
from whatmovesbuy.keeper import Keeper
from whatmovesbuy.sizes import MOST_PAGES, check_requests, check_sizes, need_size
from whatmovesbuy.words import need_number


def pages_for(sizes, cells):
    """Return the least number of pages with so many cells."""
    sizes = check_sizes(sizes)
    return (need_number(cells) + sizes[-1] - 1) // sizes[-1]


def _least_missing(numbers):
    """Return the least number that is not among ascending ones."""
    for at, number in enumerate(numbers):
        if number != at:
            return at
    return len(numbers)


class Live:
    """A store whose pages are put in where they are needed, and taken out where they are free."""

    def __init__(self, sizes):
        self.sizes = check_sizes(sizes)
        self._keeper = Keeper(self.sizes, ())

    def picture(self):
        """Return the picture of the blocks that are there."""
        return self._keeper.picture()

    def numbers(self):
        """Return the numbers of the pages, ascending."""
        return self._keeper.pages

    def in_use(self):
        """Return how many cells are held."""
        return len(self._keeper.pages) * self.sizes[-1] - self._keeper.room()

    def _drop_free_pages(self):
        """Take all free pages out."""
        for number in self._keeper.free_pages():
            self._keeper.drop_page(number)

    def take(self, size):
        """Serve all that waits, then put a block of this size; return its handle and the moves."""
        need_size(self.sizes, size)
        if pages_for(self.sizes, self.in_use() + size) > MOST_PAGES:
            raise NoRoom(size)
        moves = self._keeper.settle()
        self._drop_free_pages()
        if self._keeper.room() < size:
            self._keeper.put_page(_least_missing(self._keeper.pages))
        handle, _ = self._keeper.take(size)
        return handle, moves

    def give(self, handle):
        """Take the block with this handle out, then serve; return the moves."""
        moves = self._keeper.give(handle)
        self._drop_free_pages()
        return moves


def pages_along(sizes, requests):
    """Return by request how many pages a new store has behind it."""
    asked = check_requests(sizes, requests)
    live = Live(sizes)
    found = []
    for deed, number in asked:
        if deed == "take":
            live.take(number)
        else:
            live.give(number)
        found.append(len(live.numbers()))
    return tuple(found)
