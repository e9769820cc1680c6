"""Units of pages, pictures of the blocks that stand there, and what is free in them.

What begins with check_ or need_, and the interface, looks at what is passed; the rest takes what was looked at.
"""

from whatmovesbuy.errors import BadPicture, Broken, NoBlock, NoUnit, Refused
from whatmovesbuy.sizes import check_pages, check_sizes, need_level
from whatmovesbuy.words import check_octets, is_number, is_sequence, need_number, read_number, row_octets


def is_unit(sizes, pages, level, place):
    """Tell whether any two values are a unit."""
    if not is_number(level) or level >= len(sizes) or not is_number(place):
        return False
    return place % sizes[level] == 0 and place // sizes[-1] in pages


def need_unit(sizes, pages, level, place):
    """Raise NoUnit((level, place)) for any two values that are no unit."""
    if not is_unit(sizes, pages, level, place):
        raise NoUnit((level, place))


def _need_pair(sizes, pages, value):
    """Return any value that is a unit, a sequence (level, place); NoUnit(value) if it is none."""
    if not is_sequence(value) or len(value) != 2 or not is_unit(sizes, pages, value[0], value[1]):
        raise NoUnit(value)
    return value


def place_about(sizes, level, place):
    """Return the place of the unit of a level that has the cell at this place."""
    return place - place % sizes[level]


def child_places(sizes, level, place):
    """Return the places of a unit's children, ascending."""
    if level == 0:
        return []
    return list(range(place, place + sizes[level], sizes[level - 1]))


def _page_places(sizes, pages):
    """Return the places of the pages, ascending."""
    return [page * sizes[-1] for page in pages]


def unit_places(sizes, pages, level):
    """Return the places of all units of a level, ascending."""
    found = []
    for place in _page_places(sizes, pages):
        found.extend(list(range(place, place + sizes[-1], sizes[level])))
    return found


def units(sizes, pages, level):
    """Return the places of all units of a level, ascending."""
    sizes = check_sizes(sizes)
    pages = check_pages(pages)
    return tuple(unit_places(sizes, pages, need_level(sizes, level)))


def parent(sizes, pages, level, place):
    """Return the unit of the next level about a unit, None about a page."""
    sizes = check_sizes(sizes)
    need_unit(sizes, check_pages(pages), level, place)
    if level == len(sizes) - 1:
        return None
    return level + 1, place_about(sizes, level + 1, place)


def children(sizes, pages, level, place):
    """Return the places of a unit's children, ascending."""
    sizes = check_sizes(sizes)
    need_unit(sizes, check_pages(pages), level, place)
    return tuple(child_places(sizes, level, place))


def is_within(sizes, pages, one, other):
    """Tell whether each cell of the unit one is a cell of the unit other."""
    sizes = check_sizes(sizes)
    pages = check_pages(pages)
    level, place = _need_pair(sizes, pages, one)
    greater, begin = _need_pair(sizes, pages, other)
    return level <= greater and place_about(sizes, greater, place) == begin


def all_free(sizes, held, size, place):
    """Tell whether no cell of a block here is held, by the least units that have a held cell."""
    # Each size is a multiple of the least one, so blocks are made of whole least units.
    return not any([part in held for part in range(place, place + size, sizes[0])])


def hold(sizes, held, size, place):
    """Put the least units of a block among those that have a held cell."""
    for part in range(place, place + size, sizes[0]):
        held[part] = True


def let_go(sizes, held, size, place):
    """Take the least units of a block out of those that have a held cell."""
    for part in range(place, place + size, sizes[0]):
        del held[part]


def can_stand(sizes, pages, held, size, place):
    """Tell whether a block of a size can stand at any place, by the least units that have a held cell."""
    return is_unit(sizes, pages, sizes.index(size), place) and all_free(sizes, held, size, place)


def _is_block(sizes, pages, value):
    """Tell whether any value is a block."""
    if not is_sequence(value) or len(value) != 3:
        return False
    handle, size, place = value
    if not is_number(handle) or not is_number(size) or size not in sizes:
        return False
    return is_unit(sizes, pages, sizes.index(size), place)


def check_picture(sizes, pages, value):
    """Return any value as a picture, of tuples; BadPicture(at) if it is none."""
    sizes = check_sizes(sizes)
    pages = check_pages(pages)
    if not is_sequence(value):
        raise BadPicture(-1)
    ahead = -1
    held = {}
    for at, item in enumerate(value):
        if not _is_block(sizes, pages, item):
            raise BadPicture(at)
        handle, size, place = item
        if handle <= ahead or not all_free(sizes, held, size, place):
            raise BadPicture(at)
        hold(sizes, held, size, place)
        ahead = handle
    return tuple([tuple(item) for item in value])


def held_units(sizes, picture, level):
    """Return the places of the units of a level that have a held cell, as the keys of a dict."""
    found = {}
    for _, size, place in picture:
        # Just one unit if the block is less than it, else all units within the block.
        for start in range(place_about(sizes, level, place), place + size, sizes[level]):
            found[start] = True
    return found


def count_held(picture):
    """Return how many cells the blocks of a picture hold."""
    return sum([block[1] for block in picture])


def count_free(sizes, pages, picture):
    """Return how many cells are free."""
    return len(pages) * sizes[-1] - count_held(picture)


def free_cells(sizes, pages, picture):
    """Return how many cells are free."""
    return count_free(sizes, pages, check_picture(sizes, pages, picture))


def held_cells(sizes, pages, picture):
    """Return how many cells are held."""
    return count_held(check_picture(sizes, pages, picture))


def is_free(sizes, pages, picture, level, place):
    """Tell whether all cells of a unit are free."""
    picture = check_picture(sizes, pages, picture)
    need_unit(sizes, pages, level, place)
    return place not in held_units(sizes, picture, level)


def free_units(sizes, pages, picture, level):
    """Return the places of the free units of a level, ascending."""
    picture = check_picture(sizes, pages, picture)
    held = held_units(sizes, picture, need_level(sizes, level))
    return tuple([place for place in unit_places(sizes, pages, level) if place not in held])


def hole_rows(sizes, pages, picture):
    """Return by level the places of the holes, ascending, in lists."""
    rows = []
    # The pages, and from level to level the children of what isn't free among them: just these can be holes.
    tried = _page_places(sizes, pages)
    for level in reversed(range(len(sizes))):
        held = held_units(sizes, picture, level)
        rows.append([place for place in tried if place not in held])
        tried = [child for place in tried if place in held for child in child_places(sizes, level, place)]
    return rows[::-1]


def holes(sizes, pages, picture):
    """Return the free units whose parents aren't free, and the free pages, (level, place), ascending."""
    found = []
    for level, row in enumerate(hole_rows(sizes, pages, check_picture(sizes, pages, picture))):
        found.extend([(level, place) for place in row])
    return tuple(found)


def find_block(picture, handle):
    """Return the index of the block with this handle; NoBlock(handle) for any value that is no block's handle."""
    if is_number(handle):
        for at, block in enumerate(picture):
            if block[0] == handle:
                return at
    raise NoBlock(handle)


def block_of(sizes, pages, picture, handle):
    """Return the block with this handle."""
    picture = check_picture(sizes, pages, picture)
    return picture[find_block(picture, handle)]


def blocks_about(picture, size, place):
    """Return the blocks that hold some of so many cells from a place on, by their places."""
    found = [block for block in picture if block[2] < place + size and place < block[2] + block[1]]
    return sorted(found, key=lambda one: one[2])


def blocks_in(sizes, pages, picture, level, place):
    """Return the handles of the blocks that hold a cell of a unit, by their places."""
    picture = check_picture(sizes, pages, picture)
    need_unit(sizes, pages, level, place)
    return tuple([block[0] for block in blocks_about(picture, sizes[level], place)])


def with_block(sizes, pages, picture, block):
    """Return the picture with one block more; Refused(block) for any value that cannot be it."""
    picture = check_picture(sizes, pages, picture)
    if not _is_block(sizes, pages, block):
        raise Refused(block)
    handle, size, place = block
    if handle in [one[0] for one in picture] or not all_free(sizes, held_units(sizes, picture, 0), size, place):
        raise Refused(block)
    return tuple(sorted([*picture, (handle, size, place)]))


def without(sizes, pages, picture, handle):
    """Return the picture without the block that has this handle."""
    picture = check_picture(sizes, pages, picture)
    at = find_block(picture, handle)
    return picture[:at] + picture[at + 1:]


def picture_octets(sizes, pages, picture):
    """Return the octets of a picture: how many blocks there are, and each."""
    picture = check_picture(sizes, pages, picture)
    numbers = [len(picture)]
    for block in picture:
        numbers.extend(block)
    return row_octets(numbers)


def picture_at(sizes, pages, octets, at):
    """Return the picture that is written at this place, and the place behind it."""
    sizes = check_sizes(sizes)
    pages = check_pages(pages)
    row = check_octets(octets)
    many, behind = read_number(row, need_number(at))
    picture = []
    held = {}
    ahead = -1
    while len(picture) < many:
        handle, size_at = read_number(row, behind)
        if handle <= ahead:
            raise Broken(behind)
        size, place_at = read_number(row, size_at)
        if size not in sizes:
            raise Broken(size_at)
        place, end = read_number(row, place_at)
        if not can_stand(sizes, pages, held, size, place):
            raise Broken(place_at)
        hold(sizes, held, size, place)
        picture.append((handle, size, place))
        ahead = handle
        behind = end
    return tuple(picture), behind
