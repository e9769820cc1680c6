"""Blocks that come, go and are moved, with the units that they tear, which are kept along.

What is passed here has been looked at.
"""

from whatmovesbuy.errors import NoBlock
from whatmovesbuy.pictures import child_places, place_about
from whatmovesbuy.sizes import ratios
from whatmovesbuy.words import is_number


class Yard:
    """The blocks of a picture that changes."""

    def __init__(self, sizes, picture):
        self.sizes = sizes
        self.held = 0
        # By handle, ascending, as each block that comes has a greater handle than those ahead; handles by place.
        self.blocks = {}
        self.begun = {}
        # By level the units that aren't free, but for those within a greater block: how many children aren't free.
        # Of a unit that one block holds it is all of them, so that just the units with some free ones are torn.
        self.parts = [{} for _ in sizes]
        # By level of each torn unit how many children are free.
        self.torn = [{} for _ in sizes]
        self._full = (1,) + ratios(sizes)
        for handle, size, place in picture:
            self.put(handle, size, place)

    def picture(self):
        """Return the picture of the blocks."""
        return tuple(list(self.blocks.values()))

    def need(self, handle):
        """Raise NoBlock(handle) for any value that is no block's handle."""
        if not is_number(handle) or handle not in self.blocks:
            raise NoBlock(handle)

    def _count(self, level, place, many):
        """Note how many children of a unit aren't free, and whether it is torn."""
        if many > 0:
            self.parts[level][place] = many
        else:
            del self.parts[level][place]
        if 0 < many < self._full[level]:
            self.torn[level][place] = self._full[level] - many
        else:
            self.torn[level].pop(place, None)

    def _stand(self, size, place):
        """Note that a block holds the unit of this size at this place."""
        level = self.sizes.index(size)
        self._count(level, place, self._full[level])
        for above in range(level + 1, len(self.sizes)):
            about = place_about(self.sizes, above, place)
            many = self.parts[above].get(about, 0)
            self._count(above, about, many + 1)
            # What wasn't free ahead is counted in its parent already.
            if many > 0:
                break

    def _leave(self, size, place):
        """Note that the block of this size at this place is gone."""
        level = self.sizes.index(size)
        self._count(level, place, 0)
        for above in range(level + 1, len(self.sizes)):
            about = place_about(self.sizes, above, place)
            many = self.parts[above][about] - 1
            self._count(above, about, many)
            if many > 0:
                break

    def put(self, handle, size, place):
        """Let a block come, with a handle greater than all."""
        self._stand(size, place)
        self.blocks[handle] = (handle, size, place)
        self.begun[place] = handle
        self.held += size

    def drop(self, handle):
        """Let a block go."""
        _, size, place = self.blocks.pop(handle)
        del self.begun[place]
        self._leave(size, place)
        self.held -= size

    def shift(self, handle, to):
        """Move a block to a free unit."""
        _, size, place = self.blocks[handle]
        del self.begun[place]
        self._leave(size, place)
        self._stand(size, to)
        self.blocks[handle] = (handle, size, to)
        self.begun[to] = handle

    def is_free(self, level, place):
        """Tell whether no cell of a unit is held."""
        for above in reversed(range(level, len(self.sizes))):
            about = place_about(self.sizes, above, place)
            if about not in self.parts[above]:
                return True
            # A block that holds the whole unit about this one leaves no notes of the units within.
            if about in self.begun and self.blocks[self.begun[about]][1] == self.sizes[above]:
                return False
        return False

    def empty_pages(self, pages):
        """Return which of these pages have no held cell, ascending."""
        return [page for page in pages if page * self.sizes[-1] not in self.parts[-1]]

    def _free_children(self, level, place):
        """Return the places of the free children of a torn unit, ascending."""
        return [child for child in child_places(self.sizes, level, place) if child not in self.parts[level - 1]]

    def _free_child(self, level, place):
        """Return the place of the first free child of a torn unit."""
        return self._free_children(level, place)[0]

    def hole_places(self, level):
        """Return the places of the holes of a level below the greatest, ascending."""
        # They are the free children of torn units.
        return [child for place in sorted(self.torn[level + 1]) for child in self._free_children(level + 1, place)]

    def place_for(self, size, pages):
        """Return the place of the least hole for a size in these pages; None without one."""
        for above in range(self.sizes.index(size) + 1, len(self.sizes)):
            # Holes below the pages are the free children of torn units.
            if self.torn[above]:
                return self._free_child(above, min(list(self.torn[above])))
        free = self.empty_pages(pages)
        if not free:
            return None
        return free[0] * self.sizes[-1]

    def torn_rows(self):
        """Return by level below the greatest (place, how many children are free) of the torn units above."""
        return [list(self.torn[level].items()) for level in range(1, len(self.sizes))]

    def loosest(self):
        """Return the greatest level above which two units or more are torn; None without one."""
        for level in reversed(range(len(self.sizes) - 1)):
            if len(self.torn[level + 1]) > 1:
                return level
        return None

    def _giver_and_taker(self, level):
        """Return the torn unit that gives a child of this level, and the one that takes it."""
        counts = self.torn[level + 1]
        most = max(list(counts.values()))
        giver = min([place for place in counts if counts[place] == most])
        least = min([counts[place] for place in counts if place != giver])
        taker = min([place for place in counts if place != giver and counts[place] == least])
        return giver, taker

    def step_moves(self, level):
        """Return the moves of one step at a level above which two units or more are torn; nothing is moved."""
        giver, taker = self._giver_and_taker(level)
        given = [child for child in child_places(self.sizes, level + 1, giver) if child in self.parts[level]]
        return self.unit_moves(level, given[0], self._free_child(level + 1, taker))

    def unit_moves(self, level, begin, to):
        """Return the moves that bring the blocks within a unit to a free one of its level; nothing is moved."""
        starts = range(begin, begin + self.sizes[level], self.sizes[0])
        return [(self.begun[start], to + start - begin) for start in starts if start in self.begun]

    def make(self, moves):
        """Move blocks, one after another, each to a unit that is free then."""
        for handle, to in moves:
            self.shift(handle, to)

    def serve(self, cells):
        """Make one step at the loosest level after another, as long as so many cells last (None: without a bound).

        Return (level, cost, moves) of each step.
        """
        made = []
        left = cells
        level = self.loosest()
        while level is not None:
            moves = self.step_moves(level)
            paid = sum([self.blocks[handle][1] for handle, _ in moves])
            if left is not None:
                if paid > left:
                    break
                left -= paid
            self.make(moves)
            made.append((level, paid, moves))
            level = self.loosest()
        return made

    def serve_moves(self, cells):
        """Serve as serve does, and return all moves in their order."""
        return tuple([move for _, _, moves in self.serve(cells) for move in moves])
