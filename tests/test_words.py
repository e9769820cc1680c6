"""Promise [5]: numbers and octets."""

import unittest

from tests.values import NO_NUMBERS, NO_SEQUENCES, caught, same
from whatmovesbuy.errors import BadOctets, Broken, Refused
from whatmovesbuy.words import number_at, number_octets

WRITTEN = {
    0: (0,), 1: (1,), 127: (127,), 128: (129, 0), 129: (129, 1), 255: (129, 127), 300: (130, 44),
    16383: (255, 127), 16384: (129, 128, 0), 2 ** 21 - 1: (255, 255, 127), 2 ** 21: (129, 128, 128, 0),
}
GREAT = (10 ** 6, 2 ** 63 - 1, 2 ** 63, 2 ** 64, 10 ** 18, 10 ** 30 + 7, 10 ** 31 - 1, 10 ** 31)
NO_OCTETS = (True, False, -1, 256, 10 ** 31, "1", "", None, (1,), [])


class Writing(unittest.TestCase):
    def test_told_writings(self):
        for number, octets in WRITTEN.items():
            self.assertTrue(same(number_octets(number), octets), number)
        self.assertEqual(number_octets(number=300), (130, 44))

    def test_groups_of_seven_bits(self):
        for number in GREAT + tuple(range(1000)):
            octets = number_octets(number)
            self.assertTrue(all(octet >= 128 for octet in octets[:-1]) and octets[-1] < 128)
            self.assertNotEqual(octets[0], 128)
            bits = "".join(format(octet & 127, "07b") for octet in octets)
            self.assertEqual(int(bits, 2), number)
            self.assertEqual(len(octets), max(1, -(-number.bit_length() // 7)))

    def test_no_number(self):
        for value in NO_NUMBERS:
            self.assertIs(caught(Refused, number_octets, value).value, value)


class Reading(unittest.TestCase):
    def test_read_back_among_others(self):
        for number in tuple(WRITTEN) + GREAT:
            octets = number_octets(number)
            for ahead in ((), (0,), (255,), (128, 128), (9, 130, 44)):
                for behind in ((), (0,), (128,), (255, 255), (127, 128)):
                    row = ahead + octets + behind
                    told = (number, len(ahead) + len(octets))
                    self.assertTrue(same(number_at(row, len(ahead)), told), row)
                    self.assertTrue(same(number_at(at=len(ahead), octets=list(row)), told), row)

    def test_first_octet_of_no_bits(self):
        self.assertEqual(caught(Broken, number_at, (128,), 0).at, 0)
        self.assertEqual(caught(Broken, number_at, (128, 5), 0).at, 0)
        self.assertEqual(caught(Broken, number_at, (1, 128, 128), 1).at, 1)
        self.assertEqual(caught(Broken, number_at, (7, 7, 128), 2).at, 2)
        self.assertEqual(number_at((129, 128, 0), 0), (16384, 3))

    def test_octets_that_end_too_early(self):
        self.assertEqual(caught(Broken, number_at, (), 0).at, 0)
        self.assertEqual(caught(Broken, number_at, (129,), 0).at, 1)
        self.assertEqual(caught(Broken, number_at, (1, 255, 128), 1).at, 3)
        for number in GREAT:
            octets = number_octets(number)
            for end in range(len(octets)):
                self.assertEqual(caught(Broken, number_at, (3,) + octets[:end], 1).at, 1 + end)

    def test_place_behind_all(self):
        for at in (3, 4, 100, 10 ** 31):
            self.assertEqual(caught(Broken, number_at, (1, 2, 3), at).at, 3)
        self.assertEqual(caught(Broken, number_at, [], 10 ** 31).at, 0)

    def test_no_octets(self):
        for value in NO_SEQUENCES:
            self.assertEqual(caught(BadOctets, number_at, value, 0).at, -1)
        for item in NO_OCTETS:
            self.assertEqual(caught(BadOctets, number_at, (item,), 0).at, 0)
            self.assertEqual(caught(BadOctets, number_at, [0, 255, item, 5], 0).at, 2)
            self.assertEqual(caught(BadOctets, number_at, (5, item, None), 0).at, 1)

    def test_no_place(self):
        for value in NO_NUMBERS:
            self.assertIs(caught(Refused, number_at, (1, 2), value).value, value)

    def test_which_error_comes_first(self):
        self.assertEqual(caught(BadOctets, number_at, None, None).at, -1)
        self.assertEqual(caught(BadOctets, number_at, (128, 256), -1).at, 1)
        self.assertEqual(caught(Refused, number_at, (128,), True).value, True)
        self.assertEqual(caught(Refused, number_at, (), -1).value, -1)

    def test_arguments_stay(self):
        octets = [9, 130, 44, 9]
        self.assertEqual(number_at(octets, 1), (300, 3))
        self.assertEqual(octets, [9, 130, 44, 9])


if __name__ == "__main__":
    unittest.main()
