"""Promises [17] and [18]: rows of moves, the way back, and what stands elsewhere."""

import random
import unittest

from tests.values import ANY, NO_NUMBERS, NO_SEQUENCES, caught, same
from tests.worlds import cells, held_set, named, page_cells, some_worlds, unit_row
from whatmovesbuy.errors import BadPicture, BadRun, Refused
from whatmovesbuy.moves import cost, elsewhere, least_cost, moved, trail, way_back

SIZES, PAGES = (1, 2, 6), (0, 2)
PICTURE = ((0, 1, 0), (3, 2, 2), (4, 1, 13), (9, 2, 16))
CALLS = (trail, moved, cost, way_back)
# none of them is a move
NO_MOVES = ((), (0,), (0, 1, 1), [0], "01", {0: 1, 1: 4}, ((0, 1),), (0, (1,)), ([0], 1)) + NO_SEQUENCES
NO_MOVES += tuple((value, 1) for value in NO_NUMBERS) + tuple([0, value] for value in NO_NUMBERS)


def can_be_made(sizes, pages, picture, handle, place):
    """Whether a move can be made, by the cells."""
    blocks = {block[0]: block for block in picture}
    if handle not in blocks or place not in page_cells(sizes, pages) or place % blocks[handle][1] != 0:
        return False
    return not cells(place, blocks[handle][1]) & held_set(picture)


def behind(picture, handle, place):
    """The picture behind a move."""
    return tuple((one, size, place if one == handle else start) for one, size, start in picture)


class Rows(unittest.TestCase):
    def check_row(self, sizes, pages, row, moves):
        """A row that can be made, with the pictures ahead of it and behind each move."""
        ahead, last = row[0], row[-1]
        self.assertTrue(same(trail(sizes, pages, ahead, moves), tuple(row)))
        self.assertTrue(same(moved(sizes, pages, ahead, [list(move) for move in moves]), last))
        blocks = {block[0]: block for block in ahead}
        self.assertTrue(same(cost(sizes, pages, ahead, moves), sum(blocks[handle][1] for handle, place in moves)))
        back = way_back(sizes, pages, ahead, moves)
        stood = [{block[0]: block[2] for block in picture} for picture in row]
        told = tuple((handle, stood[at][handle]) for at, (handle, place) in enumerate(moves))[::-1]
        self.assertTrue(same(back, told))
        self.assertTrue(same(trail(sizes, pages, last, back), tuple(row[::-1])))
        self.assertEqual(cost(sizes, pages, last, back), cost(sizes, pages, ahead, moves))
        self.assertEqual(way_back(sizes, pages, last, back), tuple(moves))

    def test_rows_by_chance(self):
        chance = random.Random(17)
        made = 0
        for sizes, pages, picture in some_worlds(3):
            if not picture:
                continue
            row, moves = [picture], []
            for _ in range(8):
                handle, size, start = chance.choice(picture)
                place = chance.choice([place for place in unit_row(sizes, pages, sizes.index(size))])
                if can_be_made(sizes, pages, row[-1], handle, place):
                    row.append(behind(row[-1], handle, place))
                    moves.append((handle, place))
                else:
                    for call in CALLS:
                        wrong = moves + [(handle, place), None]
                        self.assertEqual(caught(BadRun, call, sizes, pages, picture, wrong).at, len(moves))
            self.check_row(sizes, pages, row, moves)
            made += len(moves)
        self.assertGreater(made, 1000)

    def test_each_move(self):
        for sizes, pages, picture in some_worlds(29):
            last = max(page_cells(sizes, pages), default=0)
            for handle in range(max([block[0] for block in picture], default=0) + 2):
                for place in sorted(page_cells(sizes, pages) | {0, last + 1, last + 64, 10 ** 31}):
                    if can_be_made(sizes, pages, picture, handle, place):
                        self.assertEqual(moved(sizes, pages, picture, [(handle, place)]), behind(picture, handle, place))
                    else:
                        self.assertEqual(caught(BadRun, moved, sizes, pages, picture, [(handle, place)]).at, 0)

    def test_no_moves(self):
        for moves in ((), []):
            self.assertTrue(same(trail(SIZES, PAGES, PICTURE, moves), (PICTURE,)))
            self.assertTrue(same(moved(SIZES, PAGES, PICTURE, moves), PICTURE))
            self.assertTrue(same(cost(SIZES, PAGES, PICTURE, moves), 0))
            self.assertTrue(same(way_back(SIZES, PAGES, PICTURE, moves), ()))
        self.assertEqual(trail(SIZES, (), (), ()), ((),))

    def test_one_block_again_and_again(self):
        moves = [[0, 1], [0, 12], [0, 0], [0, 1], [0, 14], [9, 4], [0, 16], [0, 17], [3, 14]]
        last = ((0, 1, 17), (3, 2, 14), (4, 1, 13), (9, 2, 4))
        self.assertTrue(same(moved(picture=PICTURE, moves=moves, pages=[0, 2], sizes=[1, 2, 6]), last))
        self.assertTrue(same(cost(moves=moves, picture=PICTURE, pages=PAGES, sizes=SIZES), 11))
        told = ((3, 2), (0, 16), (0, 14), (9, 16), (0, 1), (0, 0), (0, 12), (0, 1), (0, 0))
        self.assertTrue(same(way_back(moves=moves, picture=PICTURE, pages=PAGES, sizes=SIZES), told))
        self.assertEqual(len(trail(moves=moves, picture=PICTURE, pages=PAGES, sizes=SIZES)), 10)
        self.assertEqual(moves[0], [0, 1])

    def test_a_greatest_block(self):
        picture = ((1, 6, 0), (2, 1, 60))
        row = (picture, ((1, 6, 6 * 10 ** 30), (2, 1, 60)), ((1, 6, 0), (2, 1, 60)))
        self.check_row(SIZES, (0, 10, 10 ** 30), row, ((1, 6 * 10 ** 30), (1, 0)))


class NoRows(unittest.TestCase):
    def check(self, moves, at):
        for call in CALLS:
            with self.subTest(moves):
                self.assertEqual(caught(BadRun, call, SIZES, PAGES, PICTURE, moves).at, at)
                self.assertEqual(caught(BadRun, call, SIZES, PAGES, PICTURE, list(moves)).at, at)

    def test_no_sequence(self):
        for call in CALLS:
            for value in NO_SEQUENCES:
                self.assertEqual(caught(BadRun, call, SIZES, PAGES, PICTURE, value).at, -1)

    def test_no_move(self):
        for value in NO_MOVES:
            self.check((value,), 0)
            self.check(((0, 1), (0, 0), value, (0, 0)), 2)
            self.check(((0, 1), value, None), 1)
        for value in ANY:
            self.check((value,), 0)

    def test_no_such_block(self):
        for handle in (1, 2, 5, 10, 10 ** 31):
            self.check(((handle, 1),), 0)
            self.check(((0, 1), (handle, 0)), 1)
        self.assertEqual(caught(BadRun, trail, SIZES, PAGES, (), ((0, 0),)).at, 0)

    def test_no_unit_of_its_size(self):
        for move in ((3, 1), (3, 5), (3, 15), (0, 6), (0, 11), (3, 6), (0, 18), (3, 18), (0, 10 ** 31), (9, 11)):
            self.check((move,), 0)
            self.check(((0, 1), (4, 12), move), 2)
        for place in (2, 3, 6, 15):
            self.assertEqual(caught(BadRun, trail, SIZES, PAGES, ((0, 6, 0),), ((0, place),)).at, 0)

    def test_held_cells(self):
        # where it stands, on cells that are all held, and on such of which one is free
        for move in ((0, 0), (3, 2), (4, 13), (9, 16), (0, 2), (0, 17), (3, 16), (9, 2), (3, 0), (3, 12), (9, 12)):
            self.check((move,), 0)
        self.check(((3, 4), (3, 2), (3, 4), (3, 4)), 3)
        # free at first, but no more; and free just by a move ahead
        self.check(((0, 1), (4, 1)), 1)
        self.check(((0, 12), (4, 0), (3, 12)), 2)
        self.check(((0, 4), (3, 0), (4, 1), (9, 2)), 2)
        self.assertEqual(moved(SIZES, PAGES, PICTURE, ((0, 4), (3, 0), (9, 2)))[1], (3, 2, 0))
        # a block of its own cells, if it could be shifted
        self.assertEqual(caught(BadRun, trail, (1, 2, 4), (0,), ((0, 2, 0),), ((0, 1),)).at, 0)

    def test_the_first_is_told(self):
        self.check(((0, 1), (0, 0), (0, 1), (7, 1), None), 3)
        self.check(((0, 1), (0, 0), (0, 1), None, (7, 1)), 3)


class Elsewhere(unittest.TestCase):
    def test_by_chance(self):
        chance = random.Random(18)
        for sizes, pages, picture in some_worlds(5):
            shuffled = named(chance, [block[1:] for block in picture])
            places = {size: [block[2] for block in shuffled if block[1] == size] for size in sizes}
            other = tuple((handle, size, places[size].pop()) for handle, size, place in picture)
            apart = [block for block, again in zip(picture, other) if block[2] != again[2]]
            self.assertTrue(same(elsewhere(sizes, pages, picture, other), tuple(block[0] for block in apart)))
            self.assertTrue(same(least_cost(sizes, pages, picture, other), sum(block[1] for block in apart)))
            self.assertTrue(same(elsewhere(sizes, pages, picture, list(picture)), ()))
            self.assertTrue(same(least_cost(sizes, pages, picture, picture), 0))

    def test_a_row_costs_at_least_this(self):
        for moves, just in ((((0, 1), (3, 4)), True), (((0, 1), (0, 12)), False), (((0, 1), (0, 0)), False), ((), True),
                            (((9, 4), (0, 17), (3, 14)), True), (((9, 4), (9, 16), (0, 1)), False)):
            other = moved(SIZES, PAGES, PICTURE, moves)
            least = least_cost(SIZES, PAGES, PICTURE, other)
            self.assertEqual(cost(SIZES, PAGES, PICTURE, moves) == least, just)
            self.assertGreaterEqual(cost(SIZES, PAGES, PICTURE, moves), least)

    def test_told(self):
        other = [[0, 1, 17], [3, 2, 2], [4, 1, 13], [9, 2, 0]]
        self.assertTrue(same(elsewhere(other=other, picture=PICTURE, pages=[0, 2], sizes=[1, 2, 6]), (0, 9)))
        self.assertTrue(same(least_cost(other=other, picture=PICTURE, pages=[0, 2], sizes=[1, 2, 6]), 3))
        self.assertEqual((elsewhere(SIZES, (), (), ()), least_cost(SIZES, (), [], ())), ((), 0))

    def test_other_blocks(self):
        wrong = (
            (), PICTURE[:3], PICTURE[1:], PICTURE + ((10, 1, 4),), PICTURE[:1] + ((1, 1, 1),) + PICTURE[1:],
            ((1, 1, 0),) + PICTURE[1:], PICTURE[:3] + ((10, 2, 16),), PICTURE[:3] + ((9, 1, 16),),
            ((0, 2, 0),) + PICTURE[1:], [[0, 1, 0], [3, 2, 2], [4, 1, 13], [8, 2, 16]],
            ((0, 2, 0), (3, 1, 2), (4, 1, 13), (9, 2, 16)), ((0, 2, 4), (3, 1, 3), (4, 2, 12), (9, 1, 17)),
        )
        for other in wrong:
            for call in (elsewhere, least_cost):
                with self.subTest(other):
                    self.assertIs(caught(Refused, call, SIZES, PAGES, PICTURE, other).value, other)
                    self.assertIs(caught(Refused, call, SIZES, PAGES, other, PICTURE).value, PICTURE)
        self.assertEqual(caught(Refused, elsewhere, SIZES, PAGES, (), [(0, 1, 0)]).value, [(0, 1, 0)])

    def test_no_pictures(self):
        for call in (elsewhere, least_cost):
            for value in NO_SEQUENCES:
                self.assertEqual(caught(BadPicture, call, SIZES, PAGES, PICTURE, value).at, -1)
                self.assertEqual(caught(BadPicture, call, SIZES, PAGES, value, ((0, 1, 9),)).at, -1)
            wrong = PICTURE[:3] + ((9, 2, 12),)
            self.assertEqual(caught(BadPicture, call, SIZES, PAGES, PICTURE, wrong).at, 3)
            self.assertEqual(caught(BadPicture, call, SIZES, PAGES, wrong, PICTURE).at, 3)
            self.assertEqual(caught(BadPicture, call, SIZES, PAGES, ((0, 1, 0), (0, 1, 1)), wrong).at, 1)
            # that it is a picture is looked at ahead of its blocks
            self.assertEqual(caught(BadPicture, call, SIZES, PAGES, (), wrong).at, 3)


if __name__ == "__main__":
    unittest.main()
