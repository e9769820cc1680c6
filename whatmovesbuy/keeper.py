"""The keeper: pages that are kept full to the last cell by few moves at each request."""

from whatmovesbuy.errors import NoRoom, Refused
from whatmovesbuy.pictures import check_picture
from whatmovesbuy.sizes import MOST_PAGES, check_pages, check_sizes, need_size
from whatmovesbuy.units import kind_of
from whatmovesbuy.words import is_number
from whatmovesbuy.yard import Yard


def least_moves(sizes):
    """Return how many cells a keeper moves at most at a request: the second greatest size, 0 of one size alone."""
    sizes = check_sizes(sizes)
    if len(sizes) == 1:
        return 0
    return sizes[-2]


class Keeper:
    """A store that refuses no block while as many cells as it has are free."""

    def __init__(self, sizes, pages, picture=(), taken=0):
        self.sizes = check_sizes(sizes)
        self.pages = check_pages(pages)
        self.cells = least_moves(self.sizes)
        blocks = check_picture(self.sizes, self.pages, picture)
        self._yard = Yard(self.sizes, blocks)
        if self.kind() is None:
            raise Refused(picture)
        if not is_number(taken) or (blocks and taken <= blocks[-1][0]):
            raise Refused(taken)
        self.taken = taken

    def picture(self):
        """Return the picture of the blocks that are there."""
        return self._yard.picture()

    def kind(self):
        """Return the kind of the picture."""
        return kind_of(self._yard.torn_rows())

    def room(self):
        """Return how many cells are free."""
        return len(self.pages) * self.sizes[-1] - self._yard.held

    def waiting(self):
        """Return how many cells must be moved until the picture is smooth."""
        again = Yard(self.sizes, self.picture())
        return sum([paid for _, paid, _ in again.serve(None)])

    def settle(self):
        """Make the picture smooth, and return the moves."""
        return self._yard.serve_moves(None)

    def take(self, size):
        """Serve, then put a block of this size; return its handle and the moves."""
        need_size(self.sizes, size)
        if self.room() < size:
            raise NoRoom(size)
        moves = self._yard.serve_moves(self.cells)
        handle = self.taken
        self._yard.put(handle, size, self._yard.place_for(size, self.pages))
        self.taken += 1
        return handle, moves

    def give(self, handle):
        """Take the block with this handle out, then serve; return the moves."""
        self._yard.need(handle)
        self._yard.drop(handle)
        return self._yard.serve_moves(self.cells)

    def free_pages(self):
        """Return the numbers of the pages with no held cell, ascending."""
        return tuple(self._yard.empty_pages(self.pages))

    def add_page(self, number):
        """Put a free page in that is not there, however many there are."""
        self.pages = tuple(sorted([*self.pages, number]))

    def put_page(self, number):
        """Put a free page in."""
        if not is_number(number) or number in self.pages or len(self.pages) >= MOST_PAGES:
            raise Refused(number)
        self.add_page(number)

    def drop_page(self, number):
        """Take a free page out."""
        if not is_number(number) or number not in self.free_pages():
            raise Refused(number)
        self.pages = tuple([page for page in self.pages if page != number])
