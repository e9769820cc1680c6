"""Moves for sizes: a store of the greater sizes out of one of all sizes, and the other way."""

from whatmovesbuy.errors import NoBlock, Refused
from whatmovesbuy.keeper import Keeper
from whatmovesbuy.sizes import check_sizes, need_size
from whatmovesbuy.words import in_tuples, is_number


class Down:
    """A store of the sizes above a level, out of a store of all sizes."""

    def __init__(self, store, level):
        if not is_number(level) or level >= len(store.sizes) - 1:
            raise Refused(level)
        self.store = store
        self.sizes = tuple(store.sizes[level + 1:])
        self.pages = tuple(store.pages)

    def picture(self):
        """Return the picture that the store tells."""
        return in_tuples(self.store.picture())

    def take(self, size):
        """Return what the store tells to a request for one of the sizes above the level."""
        need_size(self.sizes, size)
        return in_tuples(self.store.take(size))

    def give(self, handle):
        """Return what the store tells to a block given back."""
        return in_tuples(self.store.give(handle))


class Up:
    """A store of all sizes, out of one of the sizes above a level that never moves a block."""

    def __init__(self, sizes, plain):
        self.sizes = check_sizes(sizes)
        self.plain = plain
        self.pages = tuple(plain.pages)
        self.level = len(self.sizes) - len(plain.sizes) - 1
        if self.level < 0 or self.sizes[self.level + 1:] != tuple(plain.sizes):
            raise Refused(sizes)
        self.small = Keeper(self.sizes[:self.level + 2], ())
        # By handle whether the block is in the keeper, and its handle there.
        self._blocks = {}
        # The other way: handles of this store by those of the keeper, and by those of the plain store.
        self._of_small = {}
        self._of_plain = {}
        # By page of the keeper the handle of the lent unit.
        self._lent = {}
        self._next = 0

    def picture(self):
        """Return the picture of the blocks that are there, but for lent units."""
        found = [(self._of_plain[handle], size, place) for handle, size, place in self.plain.picture()
                 if handle in self._of_plain]
        found.extend([(self._of_small[handle], size, place) for handle, size, place in self.small.picture()])
        return tuple(sorted(found))

    def _renamed(self, moves):
        """Return moves of the keeper, told by the handles of this store."""
        return tuple([(self._of_small[handle], to) for handle, to in moves])

    def _give_units_back(self):
        """Give the units that come free back to the plain store."""
        numbers = self.small.free_pages()
        for number in numbers:
            self.small.drop_page(number)
            self.plain.give(self._lent.pop(number))

    def _lend_unit(self):
        """Let the plain store lend a unit to the keeper."""
        unit = self.small.sizes[-1]
        lent, _ = self.plain.take(unit)
        place = [block[2] for block in self.plain.picture() if block[0] == lent][0]
        # The keeper's own way refuses a page more than 64; here as many are lent as are needed.
        self.small.add_page(place // unit)
        self._lent[place // unit] = lent

    def _take_small(self, size):
        """Take a block of a size to the level from the keeper."""
        if self.small.room() < size:
            self._lend_unit()
        inner, _ = self.small.take(size)
        self._blocks[self._next] = (True, inner)
        self._of_small[inner] = self._next

    def _take_great(self, size):
        """Take a block of a size above the level from the plain store."""
        inner, _ = self.plain.take(size)
        self._blocks[self._next] = (False, inner)
        self._of_plain[inner] = self._next

    def take(self, size):
        """Serve all that waits, then put a block of this size; return its handle and the moves."""
        level = need_size(self.sizes, size)
        moves = self._renamed(self.small.settle())
        self._give_units_back()
        if level <= self.level:
            self._take_small(size)
        else:
            self._take_great(size)
        self._next += 1
        return self._next - 1, moves

    def give(self, handle):
        """Give the block with this handle back; return the moves."""
        if not is_number(handle) or handle not in self._blocks:
            raise NoBlock(handle)
        in_small, inner = self._blocks.pop(handle)
        if not in_small:
            self.plain.give(inner)
            del self._of_plain[inner]
            return ()
        moves = self._renamed(self.small.give(inner))
        del self._of_small[inner]
        self._give_units_back()
        return moves
