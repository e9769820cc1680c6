"""Promise [10]: pictures, and blocks that come and go."""

import unittest

from tests.values import ANY, NO_NUMBERS, NO_SEQUENCES, caught, same
from tests.worlds import all_worlds, held_set, cells, some_worlds
from whatmovesbuy.errors import BadPicture, NoBlock, Refused
from whatmovesbuy.pictures import block_of, check_picture, with_block, without

SIZES, PAGES = (1, 2, 6), (0, 2)
# none of them is a block there
NO_BLOCKS = (
    (), (7,), (7, 1), (7, 1, 0, 0), [7, 2], (7, (1, 0)), "710", {7: 1, 1: 0, 0: 0},
    (7, 3, 0), (7, 0, 0), (7, 4, 12), (7, 12, 0), (7, -1, 0), (7, 64, 0), (7, 10 ** 31, 0), (7, True, 0),
    (7, None, 0), (7, "1", 0), (7, [1], 0), (7, (), 0),
    (-1, 1, 0), (True, 1, 0), (False, 1, 0), (None, 1, 0), ("7", 1, 0), ((7,), 1, 0), ([], 1, 0),
    (7, 1, -1), (7, 2, 1), (7, 2, 13), (7, 6, 3), (7, 6, 14), (7, 6, 15), (7, 1, True), (7, 1, False), (7, 1, None),
    (7, 1, "0"), (7, 1, [0]), (7, 2, ()),
    (7, 1, 6), (7, 1, 11), (7, 2, 6), (7, 6, 6), (7, 1, 18), (7, 6, 18), (7, 1, 10 ** 31), (7, 2, -2), (7, 6, -6),
) + NO_SEQUENCES


class Pictures(unittest.TestCase):
    def test_right_ones(self):
        for sizes, pages, picture in all_worlds():
            self.assertTrue(same(check_picture(sizes, pages, picture), picture))
            lists = [list(block) for block in picture]
            self.assertTrue(same(check_picture(list(sizes), list(pages), lists), picture))
        told = ((0, 1, 1), (5, 2, 10 ** 31 * 6), (10 ** 31, 1, 2))
        self.assertTrue(same(check_picture(value=[list(block) for block in told], pages=(0, 10 ** 31), sizes=SIZES), told))

    def test_without_blocks(self):
        for pages in ((), (0,), (3, 10 ** 31)):
            for value in ((), []):
                self.assertTrue(same(check_picture(SIZES, pages, value), ()))

    def test_no_sequence(self):
        for value in NO_SEQUENCES:
            self.assertEqual(caught(BadPicture, check_picture, SIZES, PAGES, value).at, -1)

    def test_no_block_at_each_place(self):
        right = ((1, 1, 4), (2, 2, 12), (3, 1, 14), (9, 2, 16), (10, 1, 5))
        for value in NO_BLOCKS:
            for at in range(len(right)):
                with self.subTest(value):
                    for row in (right[:at] + (value,) + right[at + 1:], list(right[:at]) + [value, None]):
                        self.assertEqual(caught(BadPicture, check_picture, SIZES, PAGES, row).at, at)
        for value in ANY:
            self.assertEqual(caught(BadPicture, check_picture, SIZES, PAGES, [value]).at, 0)
        self.assertEqual(caught(BadPicture, check_picture, SIZES, (), ((0, 1, 0),)).at, 0)

    def test_handles_that_do_not_ascend(self):
        for row, at in (
                (((0, 1, 0), (0, 1, 1)), 1), (((1, 1, 0), (0, 1, 1)), 1), (((3, 1, 0), (5, 1, 1), (5, 1, 2)), 2),
                (((3, 1, 0), (5, 1, 1), (3, 1, 2)), 2), (((3, 1, 0), (5, 1, 1), (4, 1, 2), (0, 0, 0)), 2),
                (((3, 1, 0), (5, 1, 1), (0, 1, 2)), 2), (((10 ** 31, 1, 0), (10 ** 31 - 1, 1, 1)), 1)):
            self.assertEqual(caught(BadPicture, check_picture, SIZES, PAGES, row).at, at)
            self.assertEqual(caught(BadPicture, check_picture, SIZES, PAGES, list(row)).at, at)

    def test_cells_that_are_held(self):
        for row, at in (
                (((0, 1, 0), (1, 1, 0)), 1), (((0, 1, 3), (1, 2, 2)), 1), (((0, 2, 2), (1, 1, 3)), 1),
                (((0, 2, 2), (1, 1, 2)), 1), (((0, 6, 0), (1, 1, 5)), 1), (((0, 1, 5), (1, 6, 0)), 1),
                (((0, 6, 0), (1, 6, 0)), 1), (((0, 2, 4), (1, 1, 0), (2, 6, 0)), 2), (((0, 6, 12), (1, 6, 0), (2, 2, 16)), 2),
                (((0, 1, 0), (1, 1, 1), (2, 1, 0), (1, 1, 3)), 2)):
            self.assertEqual(caught(BadPicture, check_picture, SIZES, PAGES, row).at, at)
            self.assertEqual(caught(BadPicture, check_picture, SIZES, PAGES, [list(one) for one in row]).at, at)

    def test_one_block_more_anywhere(self):
        for sizes, pages, picture in some_worlds(17):
            held = held_set(picture)
            handle = picture[-1][0] + 1 if picture else 0
            for size in sizes:
                for page in pages:
                    for place in range(page * sizes[-1] - 1, (page + 1) * sizes[-1] + 1):
                        row = picture + ((handle, size, place),)
                        if place % size == 0 and place // sizes[-1] in pages and not cells(place, size) & held:
                            self.assertEqual(check_picture(sizes, pages, row), row)
                        else:
                            self.assertEqual(caught(BadPicture, check_picture, sizes, pages, row).at, len(picture))

    def test_later_changes_have_no_effect(self):
        given = [[0, 1, 0], [1, 2, 2]]
        told = check_picture(SIZES, PAGES, given)
        given[0][2] = 1
        given.pop()
        self.assertEqual(told, ((0, 1, 0), (1, 2, 2)))


class Blocks(unittest.TestCase):
    def test_each_block(self):
        for sizes, pages, picture in some_worlds(3):
            for at, block in enumerate(picture):
                self.assertTrue(same(block_of(sizes, pages, picture, block[0]), block))
                less = picture[:at] + picture[at + 1:]
                self.assertTrue(same(without(sizes, pages, picture, block[0]), less))
                self.assertTrue(same(with_block(sizes, pages, less, list(block)), picture))

    def test_told(self):
        picture = [[1, 1, 0], [4, 2, 12]]
        self.assertTrue(same(block_of(handle=4, picture=picture, pages=PAGES, sizes=SIZES), (4, 2, 12)))
        self.assertTrue(same(without(handle=4, picture=picture, pages=[0, 2], sizes=[1, 2, 6]), ((1, 1, 0),)))
        self.assertTrue(same(with_block(block=[0, 1, 1], picture=picture, pages=PAGES, sizes=SIZES),
                             ((0, 1, 1), (1, 1, 0), (4, 2, 12))))
        self.assertTrue(same(with_block(SIZES, PAGES, picture, (3, 2, 2)), ((1, 1, 0), (3, 2, 2), (4, 2, 12))))
        self.assertTrue(same(with_block(SIZES, PAGES, picture, (10 ** 31, 1, 17)),
                             ((1, 1, 0), (4, 2, 12), (10 ** 31, 1, 17))))
        self.assertTrue(same(with_block(SIZES, PAGES, (), (7, 6, 0)), ((7, 6, 0),)))
        self.assertTrue(same(without(SIZES, PAGES, ((7, 6, 0),), 7), ()))
        self.assertEqual(picture, [[1, 1, 0], [4, 2, 12]])

    def test_no_handle_of_a_block(self):
        picture = ((1, 1, 0), (4, 2, 12))
        for call in (block_of, without):
            for value in NO_NUMBERS + (0, 2, 3, 5, 12, 10 ** 31, (1, 1, 0), [4, 2, 12]):
                with self.subTest(value):
                    self.assertIs(caught(NoBlock, call, SIZES, PAGES, picture, value).handle, value)
            for value in ANY + (0, 1):
                self.assertIs(caught(NoBlock, call, SIZES, PAGES, (), value).handle, value)

    def test_no_block_to_come(self):
        for value in NO_BLOCKS + ANY:
            with self.subTest(value):
                self.assertIs(caught(Refused, with_block, SIZES, PAGES, (), value).value, value)
                self.assertIs(caught(Refused, with_block, SIZES, PAGES, ((1, 1, 5), (4, 2, 12)), value).value, value)
        picture = ((1, 1, 0), (4, 2, 12))
        for value in ((1, 1, 1), (4, 2, 2), (1, 1, 0), (0, 1, 0), (0, 2, 0), (0, 6, 0), (5, 1, 13), (5, 2, 12), (5, 6, 12),
                      [4, 1, 5], [7, 1, 12]):
            self.assertIs(caught(Refused, with_block, SIZES, PAGES, picture, value).value, value)
        self.assertEqual(caught(Refused, with_block, SIZES, (), (), (0, 1, 0)).value, (0, 1, 0))


if __name__ == "__main__":
    unittest.main()
