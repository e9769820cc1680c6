"""Promise [12]: pictures as octets."""

import unittest

from tests.test_requests import numbers_of, outcome, spoiled
from tests.values import NO_NUMBERS, NO_SEQUENCES, caught, same
from tests.worlds import all_worlds, cells, some_worlds
from whatmovesbuy.errors import BadOctets, Broken, Refused
from whatmovesbuy.pictures import picture_at, picture_octets
from whatmovesbuy.words import number_octets

SIZES, PAGES = (1, 2, 6), (0, 2, 300)
PICTURES = (
    (), ((0, 1, 0),), ((5, 2, 14), (7, 1, 12), (300, 6, 1800)), ((0, 6, 12), (127, 1, 5), (128, 1, 4), (10 ** 31, 2, 2)),
)
AHEAD = ((), (0,), (128,), (255, 255), (3, 1, 3, 6))
BEHIND = ((), (0,), (128,), (255, 129), (3, 1, 3, 6))


def stands(sizes, pages, row, number):
    """Whether a number can stand behind those of a picture's blocks that were read."""
    blocks = [row[at:at + 3] for at in range(0, len(row), 3)]
    if len(row) % 3 == 0:
        return not blocks or number > blocks[-1][0]
    if len(row) % 3 == 1:
        return number in sizes
    size = row[-1]
    held = set().union(*[cells(place, many) for handle, many, place in blocks[:-1]])
    return number % size == 0 and number // sizes[-1] in pages and not cells(number, size) & held


def expected_picture(sizes, pages, octets, at):
    """What reading a picture comes to: ("row", picture, behind) or ("broken", place)."""
    told, broken = numbers_of(octets, at)
    end = len(octets) if broken is None else broken
    if not told:
        return "broken", end
    many, _, behind = told[0]
    row = []
    while len(row) < 3 * many:
        if len(row) + 1 >= len(told):
            return "broken", end
        number, place, behind = told[len(row) + 1]
        if not stands(sizes, pages, row, number):
            return "broken", place
        row.append(number)
    return "row", tuple(tuple(row[at:at + 3]) for at in range(0, len(row), 3)), behind


class Writing(unittest.TestCase):
    def test_number_by_number(self):
        for sizes, pages, picture in list(some_worlds(5)) + [(SIZES, PAGES, picture) for picture in PICTURES]:
            told = number_octets(len(picture))
            for block in picture:
                for number in block:
                    told += number_octets(number)
            self.assertTrue(same(picture_octets(sizes, pages, picture), told))

    def test_told(self):
        self.assertTrue(same(picture_octets(SIZES, PAGES, ()), (0,)))
        self.assertTrue(same(picture_octets(SIZES, (), []), (0,)))
        self.assertTrue(same(picture_octets(SIZES, PAGES, PICTURES[2]), (3, 5, 2, 14, 7, 1, 12, 130, 44, 6, 142, 8)))
        self.assertTrue(same(picture_octets(picture=[[9, 1, 2]], pages=[0], sizes=[1, 2, 6]), (1, 9, 1, 2)))


class Reading(unittest.TestCase):
    def test_read_back_among_others(self):
        for picture in PICTURES:
            octets = picture_octets(SIZES, PAGES, picture)
            for ahead in AHEAD:
                for behind in BEHIND:
                    row = ahead + octets + behind
                    told = (picture, len(ahead) + len(octets))
                    self.assertTrue(same(picture_at(SIZES, PAGES, row, len(ahead)), told), row)
        self.assertEqual(picture_at(at=1, octets=[8, 1, 9, 1, 2, 5], pages=[0], sizes=[1, 2, 6]), (((9, 1, 2),), 5))

    def test_read_back(self):
        for sizes, pages, picture in all_worlds():
            octets = picture_octets(sizes, pages, picture)
            self.assertTrue(same(picture_at(sizes, pages, (1,) + octets + (1,), 1), (picture, 1 + len(octets))))

    def test_spoiled(self):
        for picture in PICTURES:
            for octets in spoiled((7,) + picture_octets(SIZES, PAGES, picture) + (5,)):
                told = expected_picture(SIZES, PAGES, octets, 1)
                self.assertTrue(same(outcome(picture_at, SIZES, PAGES, octets, 1), told), octets)
                if told[0] == "row":
                    self.assertEqual(picture_octets(SIZES, PAGES, told[1]), octets[1:told[2]])

    def test_cut_anywhere(self):
        for picture in PICTURES:
            octets = picture_octets(SIZES, PAGES, picture)
            for end in range(len(octets)):
                self.assertEqual(caught(Broken, picture_at, SIZES, PAGES, (1, 2) + octets[:end], 2).at, 2 + end)

    def test_what_cannot_stand(self):
        # of each: octets, place from which they are read, place that is told
        rows = (
            ((), 0, 0), ((1,), 0, 1), ((1,), 5, 1), ((), 10 ** 31, 0), ((128, 1), 0, 0), ((130,), 0, 1),
            ((1, 128), 0, 1), ((1, 0, 128), 0, 2), ((1, 0, 1, 128), 0, 3), ((1, 0, 1, 130), 0, 4),
            # sizes that are none: as soon as they are whole
            ((1, 0, 0), 0, 2), ((1, 0, 3), 0, 2), ((1, 0, 130, 44), 0, 2), ((1, 130, 44, 4), 0, 3), ((1, 0, 130), 0, 3),
            # places where there is no such block
            ((1, 0, 2, 1), 0, 3), ((1, 0, 6, 14), 0, 3), ((1, 0, 1, 6), 0, 3), ((1, 0, 1, 130, 44), 0, 3),
            ((1, 130, 44, 1, 18), 0, 4), ((9, 9, 1, 0, 2, 13), 2, 5),
            # handles that are not above the one ahead
            ((2, 0, 1, 0, 0), 0, 4), ((2, 5, 1, 0, 4), 0, 4), ((2, 130, 44, 1, 0, 130, 44), 0, 5),
            ((3, 5, 1, 0, 6, 1, 1, 5), 0, 7),
            # cells that are held
            ((2, 0, 1, 0, 1, 1, 0), 0, 6), ((2, 0, 1, 3, 1, 2, 2), 0, 6), ((2, 0, 2, 2, 1, 1, 3), 0, 6),
            ((2, 0, 6, 12, 1, 6, 12), 0, 6), ((3, 0, 2, 4, 1, 1, 0, 2, 6, 0), 0, 9), ((2, 0, 1, 0, 130, 44, 1, 0), 0, 7),
            # any count can stand
            ((255, 127), 0, 2), ((2,), 0, 1), ((2, 0, 1, 0), 0, 4), ((255, 255, 255, 127, 0, 1, 0), 0, 7),
        )
        for octets, at, place in rows:
            with self.subTest(octets):
                self.assertEqual(caught(Broken, picture_at, SIZES, PAGES, octets, at).at, place)
        self.assertEqual(caught(Broken, picture_at, SIZES, (), (1, 0, 1, 0), 0).at, 3)
        great = number_octets(10 ** 31) + (0, 1, 0, 1, 2, 130)
        self.assertEqual(caught(Broken, picture_at, SIZES, PAGES, great, 0).at, len(great))

    def test_no_octets_and_no_place(self):
        for value in NO_SEQUENCES:
            self.assertEqual(caught(BadOctets, picture_at, SIZES, PAGES, value, None).at, -1)
        for item in (True, -1, 256, "1", None, ()):
            self.assertEqual(caught(BadOctets, picture_at, SIZES, PAGES, (1, item, None), -1).at, 1)
            self.assertEqual(caught(BadOctets, picture_at, SIZES, PAGES, [128, 0, 0, item], 0).at, 3)
        for value in NO_NUMBERS:
            self.assertIs(caught(Refused, picture_at, SIZES, PAGES, (128,), value).value, value)


if __name__ == "__main__":
    unittest.main()
