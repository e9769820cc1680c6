"""What moves buy: the amounts that are enough for full use, and what lesser ones come to."""

from whatmovesbuy.foe import foe_many
from whatmovesbuy.game import need_when
from whatmovesbuy.lazy import least_at_taking
from whatmovesbuy.sizes import check_sizes, need_counting
from whatmovesbuy.words import need_number


def full_amount(sizes, pages, when):
    """Return how many cells must be let move at each request for all cells to be kept; None if it is not told."""
    counting, many = need_counting(sizes, pages)
    need_when(when)
    if len(counting) == 1:
        return 0
    if when == "request":
        return counting[-2]
    if when == "giving":
        return sum(counting[:-1]) if many >= len(counting) else None
    return least_at_taking(counting, many) if len(counting) == 2 else None


def above(sizes, moves):
    """Return the sizes above so many cells, which are those that count where so many may be moved."""
    sizes = check_sizes(sizes)
    need_number(moves)
    return tuple([size for size in sizes if size > moves])


def verdict(sizes, pages, moves):
    """Return ("full", amount) if so many moves at each request are enough for full use.

    Else ("beaten", amount, how many requests the foe makes).
    """
    amount = full_amount(sizes, pages, "request")
    if need_number(moves) >= amount:
        return "full", amount
    return "beaten", amount, foe_many(sizes, pages)
