"""Rows of moves, the way back, what stands elsewhere, and the moves of whole units."""

from whatmovesbuy.errors import BadRun, Refused
from whatmovesbuy.pictures import blocks_about, can_stand, check_picture, held_units, hold, let_go, need_unit
from whatmovesbuy.words import is_number, is_sequence


def is_move(value):
    """Tell whether any value is a move."""
    return is_sequence(value) and len(value) == 2 and is_number(value[0]) and is_number(value[1])


def _made(sizes, pages, picture, moves):
    """Return of each move (index of its block, place ahead of it, place behind it), for any value as moves.

    BadRun(-1) if it is no sequence, BadRun(at) for the first item that is no move or can't be made.
    """
    if not is_sequence(moves):
        raise BadRun(-1)
    indexes = {block[0]: index for index, block in enumerate(picture)}
    places = [block[2] for block in picture]
    held = held_units(sizes, picture, 0)
    found = []
    for at, move in enumerate(moves):
        if not is_move(move) or move[0] not in indexes:
            raise BadRun(at)
        index = indexes[move[0]]
        size = picture[index][1]
        if not can_stand(sizes, pages, held, size, move[1]):
            raise BadRun(at)
        found.append((index, places[index], move[1]))
        let_go(sizes, held, size, places[index])
        hold(sizes, held, size, move[1])
        places[index] = move[1]
    return found


def trail(sizes, pages, picture, moves):
    """Return the picture ahead of a row of moves, and that behind each of them."""
    picture = check_picture(sizes, pages, picture)
    found = [picture]
    now = list(picture)
    for index, _, behind in _made(sizes, pages, picture, moves):
        now[index] = (picture[index][0], picture[index][1], behind)
        found.append(tuple(now))
    return tuple(found)


def moved(sizes, pages, picture, moves):
    """Return the picture behind a row of moves."""
    return trail(sizes, pages, picture, moves)[-1]


def cost(sizes, pages, picture, moves):
    """Return the sizes of the blocks that are moved, added up move by move."""
    picture = check_picture(sizes, pages, picture)
    return sum([picture[one[0]][1] for one in _made(sizes, pages, picture, moves)])


def way_back(sizes, pages, picture, moves):
    """Return the moves that lead from the picture behind a row of moves to the one ahead of it."""
    picture = check_picture(sizes, pages, picture)
    found = [(picture[index][0], ahead) for index, ahead, _ in _made(sizes, pages, picture, moves)]
    return tuple(found[::-1])


def _blocks_elsewhere(sizes, pages, picture, other):
    """Return the blocks of a picture that stand at another place in another one, by their handles."""
    picture = check_picture(sizes, pages, picture)
    told = check_picture(sizes, pages, other)
    if [block[:2] for block in picture] != [block[:2] for block in told]:
        raise Refused(other)
    return [block for block, again in zip(picture, told) if block != again]


def elsewhere(sizes, pages, picture, other):
    """Return the handles of the blocks that stand at another place in another picture, ascending."""
    return tuple([block[0] for block in _blocks_elsewhere(sizes, pages, picture, other)])


def least_cost(sizes, pages, picture, other):
    """Return the sizes of the blocks that stand at another place in another picture, added up."""
    return sum([block[1] for block in _blocks_elsewhere(sizes, pages, picture, other)])


def unit_moves(sizes, pages, picture, level, place, to):
    """Return the moves that bring the blocks within a unit to the free unit of its level at the place to."""
    picture = check_picture(sizes, pages, picture)
    need_unit(sizes, pages, level, place)
    need_unit(sizes, pages, level, to)
    within = blocks_about(picture, sizes[level], place)
    if any([block[1] > sizes[level] for block in within]):
        raise Refused(place)
    if to in held_units(sizes, picture, level):
        raise Refused(to)
    return tuple([(handle, to + start - place) for handle, _, start in within])
