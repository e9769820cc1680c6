"""Serving: units that are torn are filled from one another, the greatest ones first, until the picture is smooth."""

from whatmovesbuy.errors import Refused
from whatmovesbuy.pictures import check_picture
from whatmovesbuy.sizes import check_sizes
from whatmovesbuy.units import need_level_below
from whatmovesbuy.words import need_number
from whatmovesbuy.yard import Yard


def _yard_of(sizes, pages, picture):
    """Return a yard with the blocks of a picture, which is looked at."""
    sizes = check_sizes(sizes)
    return Yard(sizes, check_picture(sizes, pages, picture))


def step(sizes, pages, picture, level):
    """Return the moves of one step at a level."""
    yard = _yard_of(sizes, pages, picture)
    need_level_below(sizes, level)
    if len(yard.torn[level + 1]) < 2:
        raise Refused(level)
    return tuple(yard.step_moves(level))


def loosest(sizes, pages, picture):
    """Return the greatest level above which two units or more are torn; None of a smooth picture."""
    return _yard_of(sizes, pages, picture).loosest()


def served(sizes, pages, picture, cells):
    """Return the moves that serve a picture as far as so many cells last, and the picture behind them."""
    yard = _yard_of(sizes, pages, picture)
    moves = yard.serve_moves(need_number(cells))
    return moves, yard.picture()


def settled(sizes, pages, picture):
    """Return the moves that make a picture smooth, and the picture behind them."""
    yard = _yard_of(sizes, pages, picture)
    moves = yard.serve_moves(None)
    return moves, yard.picture()


def steps(sizes, pages, picture):
    """Return the level and the cost of each step until a picture is smooth."""
    made = _yard_of(sizes, pages, picture).serve(None)
    return tuple([(level, paid) for level, paid, _ in made])


def due(sizes, pages, picture):
    """Return how many cells must be moved, step by step, until a picture is smooth."""
    return sum([paid for _, paid in steps(sizes, pages, picture)])
