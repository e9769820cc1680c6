"""Stores by choices: each row of places, or of moves, comes by some choices."""

from whatmovesbuy.errors import NoBlock, NoRoom, Refused
from whatmovesbuy.pictures import place_about, unit_places
from whatmovesbuy.sizes import check_pages, check_sizes, need_size
from whatmovesbuy.words import is_number, is_sequence, need_number


def _check_choices(value):
    """Return any value as choices, a tuple; Refused(value) if it is none."""
    if not is_sequence(value) or not all([is_number(item) for item in value]):
        raise Refused(value)
    return tuple(value)


def _first_from(row, place):
    """Return the index of the first item of an ascending row that is not below a place."""
    low = 0
    high = len(row)
    while low < high:
        middle = (low + high) // 2
        if row[middle] < place:
            low = middle + 1
        else:
            high = middle
    return low


def _moves_of(made):
    """Return the row of moves that were made, each told as (handle, place ahead, place)."""
    return tuple([(handle, to) for handle, _, to in made])


class Floor:
    """Blocks by handles, the places of all free units by level, and the choices that are left."""

    def __init__(self, sizes, pages, choices):
        self.sizes = sizes
        self.blocks = {}
        self._rows = [unit_places(sizes, pages, level) for level in range(len(sizes))]
        self._next = 0
        self._choices = choices
        self.read = 0

    def picture(self):
        """Return the picture of the blocks."""
        return tuple(list(self.blocks.values()))

    def is_left(self):
        """Tell whether a choice is left."""
        return self.read < len(self._choices)

    def choice(self):
        """Read a choice; 0 where none is left."""
        if not self.is_left():
            return 0
        self.read += 1
        return self._choices[self.read - 1]

    def free_places(self, size):
        """Return the places of the free units of this size, ascending."""
        return self._rows[self.sizes.index(size)]

    def _hold(self, size, place):
        """Strike what a block holds from the free units."""
        level = self.sizes.index(size)
        for lower in range(level + 1):
            at = _first_from(self._rows[lower], place)
            del self._rows[lower][at:at + size // self.sizes[lower]]
        for above in range(level + 1, len(self.sizes)):
            about = place_about(self.sizes, above, place)
            at = _first_from(self._rows[above], about)
            if self._rows[above][at:at + 1] == [about]:
                del self._rows[above][at]

    def _is_all_free(self, level, place):
        """Tell whether all children of a unit are free."""
        row = self._rows[level - 1]
        last = place + self.sizes[level] - self.sizes[level - 1]
        at = _first_from(row, place) + self.sizes[level] // self.sizes[level - 1] - 1
        return row[at:at + 1] == [last]

    def _let_go(self, size, place):
        """Put what a block held back among the free units."""
        level = self.sizes.index(size)
        for lower in range(level + 1):
            at = _first_from(self._rows[lower], place)
            self._rows[lower][at:at] = list(range(place, place + size, self.sizes[lower]))
        for above in range(level + 1, len(self.sizes)):
            about = place_about(self.sizes, above, place)
            if not self._is_all_free(above, about):
                break
            at = _first_from(self._rows[above], about)
            self._rows[above][at:at] = [about]

    def put_by_choice(self, size):
        """Put a block where a choice tells, and return its handle; there is a free unit of its size."""
        places = self.free_places(size)
        place = places[self.choice() % len(places)]
        handle = self._next
        self._hold(size, place)
        self.blocks[handle] = (handle, size, place)
        self._next += 1
        return handle

    def drop(self, handle):
        """Let a block go; NoBlock(handle) for any value that is no handle of a block."""
        if not is_number(handle) or handle not in self.blocks:
            raise NoBlock(handle)
        _, size, place = self.blocks.pop(handle)
        self._let_go(size, place)

    def shift(self, handle, to):
        """Move a block to a free unit."""
        _, size, place = self.blocks[handle]
        self._let_go(size, place)
        self._hold(size, to)
        self.blocks[handle] = (handle, size, to)

    def _move_of(self, choice, cells):
        """Return the move that a choice above 0 tells, of all of blocks of at most so many cells; None without one."""
        counts = {size: len(row) for size, row in zip(self.sizes, self._rows) if size <= cells}
        blocks = [block for block in list(self.blocks.values()) if block[1] in counts]
        many = sum([counts[block[1]] for block in blocks])
        if many == 0:
            return None
        rest = (choice - 1) % many
        at = 0
        while rest >= counts[blocks[at][1]]:
            rest -= counts[blocks[at][1]]
            at += 1
        handle, size, _ = blocks[at]
        return handle, self.free_places(size)[rest]

    def move_by_choices(self, cells):
        """Move blocks of at most so many cells in all, as choices tell; return (handle, place ahead, place) by move."""
        made = []
        left = cells
        while self.is_left():
            choice = self.choice()
            if choice == 0:
                break
            move = self._move_of(choice, left)
            if move is None:
                break
            handle, to = move
            _, size, place = self.blocks[handle]
            self.shift(handle, to)
            left -= size
            made.append((handle, place, to))
        return made

    def go_back(self, made, read):
        """Undo what was moved, as if no more choices than so many had been read."""
        for handle, place, _ in reversed(made):
            self.shift(handle, place)
        self.read = read


class Plain:
    """A store without moves, which puts blocks where its choices tell."""

    def __init__(self, sizes, pages, choices=()):
        self.sizes = check_sizes(sizes)
        self.pages = check_pages(pages)
        self.choices = _check_choices(choices)
        self._floor = Floor(self.sizes, self.pages, self.choices)

    def picture(self):
        """Return the picture of the blocks that are there."""
        return self._floor.picture()

    def take(self, size):
        """Put a block of this size; return its handle and no moves."""
        need_size(self.sizes, size)
        if not self._floor.free_places(size):
            raise NoRoom(size)
        return self._floor.put_by_choice(size), ()

    def give(self, handle):
        """Give the block with this handle back; return no moves."""
        self._floor.drop(handle)
        return ()


class Wild:
    """A store that moves blocks, and puts them, as its choices tell."""

    def __init__(self, sizes, pages, cells, choices=()):
        self.sizes = check_sizes(sizes)
        self.pages = check_pages(pages)
        self.cells = need_number(cells)
        self.choices = _check_choices(choices)
        self._floor = Floor(self.sizes, self.pages, self.choices)

    def picture(self):
        """Return the picture of the blocks that are there."""
        return self._floor.picture()

    def take(self, size):
        """Move blocks, then put one of this size; return its handle and the moves."""
        need_size(self.sizes, size)
        read = self._floor.read
        made = self._floor.move_by_choices(self.cells)
        if not self._floor.free_places(size):
            self._floor.go_back(made, read)
            raise NoRoom(size)
        return self._floor.put_by_choice(size), _moves_of(made)

    def give(self, handle):
        """Give the block with this handle back, then move blocks; return the moves."""
        self._floor.drop(handle)
        return _moves_of(self._floor.move_by_choices(self.cells))
