"""Serving, and stores, done by the tests themselves: counted cell by cell, and slowly."""

from tests.worlds import cells, free_set, held_set, hole_row, page_cells, torn_row, unit_row


class Refusal(Exception):
    """A model refuses a request."""


def behind(sizes, pages, picture, moves):
    """The picture behind some moves, each of which must be one that can be made; and what they cost."""
    blocks, paid = {block[0]: tuple(block) for block in picture}, 0
    for handle, to in moves:
        _, size, place = blocks[handle]
        unit = cells(to, size)
        assert to % size == 0 and unit <= page_cells(sizes, pages), (handle, to)
        assert not unit & held_set(blocks.values()), (handle, to)
        blocks[handle] = (handle, size, to)
        paid += size
    return tuple(blocks[handle] for handle in sorted(blocks)), paid


def step_at(sizes, pages, picture, level):
    """The moves of one step at a level, None if fewer than two units above it are torn."""
    rows = torn_row(sizes, pages, picture, level)
    if len(rows) < 2:
        return None
    giver = min(rows, key=lambda row: (-row[1], row[0]))[0]
    taker = min([row for row in rows if row[0] != giver], key=lambda row: (row[1], row[0]))[0]
    free = free_set(sizes, pages, picture)
    span = sizes[level]
    begin = [start for start in range(giver, giver + sizes[level + 1], span) if not cells(start, span) <= free][0]
    to = [start for start in range(taker, taker + sizes[level + 1], span) if cells(start, span) <= free][0]
    within = sorted((place, handle) for handle, size, place in picture if begin <= place < begin + span)
    return tuple((handle, place - begin + to) for place, handle in within)


def loosest_of(sizes, pages, picture):
    """The greatest level above which two units or more are torn, None without one."""
    found = [level for level in range(len(sizes) - 1) if len(torn_row(sizes, pages, picture, level)) > 1]
    return max(found, default=None)


def serve(sizes, pages, picture, most):
    """(level and cost of each step, moves, picture behind) of serving with so many cells; None: as many as it takes."""
    made, moves = [], ()
    while (level := loosest_of(sizes, pages, picture)) is not None:
        row = step_at(sizes, pages, picture, level)
        after, paid = behind(sizes, pages, picture, row)
        if most is not None and sum(cost for _, cost in made) + paid > most:
            break
        picture = after
        moves += row
        made.append((level, paid))
    return tuple(made), moves, picture


def kind_by_cells(sizes, pages, picture):
    """The kind of a picture, word by word as the document tells it."""
    last = len(sizes) - 1
    rows = [torn_row(sizes, pages, picture, level) for level in range(last)]
    loose = [level for level in range(last) if len(rows[level]) > 1]
    if not loose:
        return "smooth"
    if len(loose) > 1:
        return None
    level = loose[0]
    two = len(rows[level]) == 2 and min(many for _, many in rows[level]) == 1
    if last < 2 or not two or rows[last - 2]:
        return None
    if level == last - 1:
        return "page"
    return "deep" if level <= last - 3 else None


def put(sizes, pages, picture, handle, size):
    """The picture with a block more, in the least hole that is great enough; Refusal without one."""
    found = [hole for hole in hole_row(sizes, pages, picture) if sizes[hole[0]] >= size]
    if not found:
        raise Refusal
    return tuple(sorted(picture + ((handle, size, min(found)[1]),)))


def chosen_row(sizes, pages, picture, level):
    """The holes that are chosen for a unit of a level, (level, place), and how many cells they have."""
    rows = [hole for hole in hole_row(sizes, pages, picture) if hole[0] < level]
    found, many = [], 0
    for lower, place in sorted(rows, key=lambda hole: (-hole[0], hole[1])):
        if many < sizes[level]:
            found.append((lower, place))
            many += sizes[lower]
    return found, many


def gather_at(sizes, pages, picture, level):
    """(moves, place of the unit that is free behind them), each child looked at; Refusal if too few cells are free."""
    great = [hole for hole in hole_row(sizes, pages, picture) if hole[0] >= level]
    if great:
        return (), min(great)[1]
    row, many = chosen_row(sizes, pages, picture, level)
    if many < sizes[level]:
        raise Refusal
    marked, moves = set(row), ()
    for lower in range(level):
        span = sizes[lower]
        kids = {place: range(place, place + sizes[lower + 1], span) for place in unit_row(sizes, pages, lower + 1)}

        def many_marked(place):
            return sum((lower, kid) in marked for kid in kids[place])

        while torn := [place for place in kids if 0 < many_marked(place) < len(kids[place])]:
            giver = min(torn, key=lambda place: (-many_marked(place), place))
            taker = min([place for place in torn if place != giver], key=lambda place: (many_marked(place), place))
            kid = [start for start in kids[giver] if (lower, start) not in marked][0]
            to = [start for start in kids[taker] if (lower, start) in marked][0]
            within = sorted((place, handle) for handle, _, place in picture if kid <= place < kid + span)
            made = tuple((handle, place - kid + to) for place, handle in within)
            picture, _ = behind(sizes, pages, picture, made)
            moves += made
            marked ^= {(lower, to), (lower, kid)}
        for place in [place for place in kids if many_marked(place)]:
            marked -= {(lower, kid) for kid in kids[place]}
            marked.add((lower + 1, place))
    (_, place), = marked
    return moves, place


class KeeperModel:
    """The keeper, by the words of the document."""

    def __init__(self, sizes, pages, picture=(), taken=0):
        self.sizes, self.pages, self.blocks, self.taken = sizes, list(pages), picture, taken
        self.cells = sizes[-2] if len(sizes) > 1 else 0

    def room(self):
        """How many cells are free."""
        return len(free_set(self.sizes, self.pages, self.blocks))

    def kind(self):
        """The kind of the picture."""
        return kind_by_cells(self.sizes, self.pages, self.blocks)

    def waiting(self):
        """How many cells are due."""
        return sum(cost for _, cost in serve(self.sizes, self.pages, self.blocks, None)[0])

    def settle(self):
        """The moves of all steps, made."""
        _, moves, self.blocks = serve(self.sizes, self.pages, self.blocks, None)
        return moves

    def take(self, size):
        """Serve, then put."""
        if self.room() < size:
            raise Refusal
        _, moves, picture = serve(self.sizes, self.pages, self.blocks, self.cells)
        self.blocks = put(self.sizes, self.pages, picture, self.taken, size)
        self.taken += 1
        return self.taken - 1, moves

    def give(self, handle):
        """Take out, then serve."""
        rest = tuple(block for block in self.blocks if block[0] != handle)
        if len(rest) == len(self.blocks):
            raise Refusal
        _, moves, self.blocks = serve(self.sizes, self.pages, rest, self.cells)
        return moves

    def free_pages(self):
        """The pages without a held cell."""
        held = held_set(self.blocks)
        span = self.sizes[-1]
        return tuple(page for page in sorted(self.pages) if not cells(page * span, span) & held)
