"""Promise [8]: requests, and the octets of sizes, pages and requests."""

import unittest

from tests.values import ANY, NO_NUMBERS, NO_SEQUENCES, caught, same
from whatmovesbuy.errors import BadOctets, Broken, Refused
from whatmovesbuy.sizes import check_request, check_requests, pages_at, pages_octets, read_requests, request_at
from whatmovesbuy.sizes import request_octets, sizes_at, sizes_octets, write_requests
from whatmovesbuy.words import number_octets

SIZES = (1, 3, 6)
ALL_SIZES = ((1,), (64,), (1, 2), (3, 9), SIZES, (2, 6, 18, 36), (1, 2, 4, 8, 16), (4, 8, 16, 32, 64))
ALL_PAGES = ((), (0,), (127, 128), (1, 300, 16384, 10 ** 31), tuple(range(64)), tuple(range(100, 164)))
REQUESTS = (("take", 1), ("take", 3), ("take", 6), ("give", 0), ("give", 1), ("give", 123), ("give", 124),
            ("give", 125), ("give", 300), ("give", 10 ** 31))
NO_REQUESTS = (
    ("take",), ("give",), ("take", 1, 1), (1, "take"), ("take", 2), ("take", 0), ("take", 64), ("take", True),
    ("take", "1"), ("take", None), ("give", -1), ("give", True), ("give", False), ("give", None), ("give", "0"),
    ("give", [0]), ("give", (1,)), ("Take", 1), ("put", 1), ("", 0), (None, 1), (0, 0), (["take"], 1), ["take", -1],
    ["give", 1, 2], {"take": 1, "give": 2}, ("takegive", 1), "ta",
) + NO_SEQUENCES
AHEAD = ((), (0,), (128,), (255, 255), (3, 1, 3, 6))
BEHIND = ((), (0,), (128,), (255, 129), (3, 1, 3, 6))


def numbers_of(octets, at):
    """What stands in octets from a place on: (number, place, place behind) of each whole number, and what follows.

    That is None if the octets end with a number, else the place that Broken tells.
    """
    told, begin, bits = [], at, ""
    for place in range(at, len(octets)):
        if place == begin and octets[place] == 128:
            return told, begin
        bits += format(octets[place] % 128, "07b")
        if octets[place] < 128:
            told.append((int(bits, 2), begin, place + 1))
            begin, bits = place + 1, ""
    return told, None if begin == len(octets) else len(octets)


def expected_row(octets, at, counts, stands):
    """What reading a counted row comes to: ("row", row, behind) or ("broken", place)."""
    told, broken = numbers_of(octets, at)
    end = len(octets) if broken is None else broken
    if not told:
        return "broken", end
    many, place, behind = told[0]
    if many not in counts:
        return "broken", place
    row = ()
    for index in range(many):
        if index + 1 >= len(told):
            return "broken", end
        number, place, behind = told[index + 1]
        if not stands(row, number):
            return "broken", place
        row += (number,)
    return "row", row, behind


def size_stands(row, size):
    """Whether a size can stand behind these."""
    return 1 <= size <= 64 and all(size > one and size % one == 0 for one in row)


def page_stands(row, page):
    """Whether a page can stand behind these."""
    return all(page > one for one in row)


def expected_requests(sizes, octets):
    """What read_requests comes to: ("row", requests, behind) or ("broken", place)."""
    told, broken = numbers_of(octets, 0)
    if broken is not None and broken < len(octets):
        return "broken", broken
    row = tuple(("take", sizes[n]) if n < len(sizes) else ("give", n - len(sizes)) for n, place, behind in told)
    return "row", row, told[-1][2] if told else 0


def outcome(call, *rest):
    """What a call comes to: ("row", result ..) or ("broken", place)."""
    try:
        return ("row",) + call(*rest)
    except Broken as broken:
        return "broken", broken.at


def spoiled(octets):
    """These octets cut at each place, and with each octet changed to each of some others."""
    for end in range(len(octets)):
        yield octets[:end]
    for at in range(len(octets)):
        for octet in tuple(range(10)) + (12, 16, 63, 64, 65, 127, 128, 129, 130, 192, 254, 255):
            yield octets[:at] + (octet,) + octets[at + 1:]


class Requests(unittest.TestCase):
    def test_requests(self):
        for request in REQUESTS:
            self.assertTrue(same(check_request(SIZES, request), request))
            self.assertTrue(same(check_request(list(SIZES), list(request)), request))
        self.assertEqual(check_request(value=["take", 3], sizes=SIZES), ("take", 3))
        self.assertTrue(same(check_requests(SIZES, [list(request) for request in REQUESTS]), REQUESTS))
        self.assertTrue(same(check_requests(value=REQUESTS, sizes=SIZES), REQUESTS))
        self.assertTrue(same(check_requests(SIZES, []), ()))

    def test_no_request(self):
        for value in NO_REQUESTS:
            with self.subTest(value):
                self.assertIs(caught(Refused, check_request, SIZES, value).value, value)
                self.assertIs(caught(Refused, request_octets, SIZES, value).value, value)
        for value in ANY:
            if value not in (("take", 1), ["give", 0]):
                self.assertIs(caught(Refused, check_request, SIZES, value).value, value)

    def test_no_requests(self):
        rows = [(value,) for value in NO_REQUESTS] + [[("give", 1), value, ("take", 1)] for value in NO_REQUESTS]
        for value in rows + list(NO_SEQUENCES) + [("take", 1), ["give", 0]]:
            with self.subTest(value):
                self.assertIs(caught(Refused, check_requests, SIZES, value).value, value)
                self.assertIs(caught(Refused, write_requests, SIZES, value).value, value)

    def test_sizes_of_requests_go_by_the_sizes(self):
        self.assertEqual(check_request((2, 4), ("take", 4)), ("take", 4))
        self.assertEqual(caught(Refused, check_request, (2, 4), ("take", 1)).value, ("take", 1))

    def test_later_changes_have_no_effect(self):
        given = [["take", 1]]
        told = check_requests(SIZES, given)
        given[0][1] = 3
        self.assertEqual(told, (("take", 1),))


class Writing(unittest.TestCase):
    def test_sizes_and_pages(self):
        for row in ALL_SIZES:
            self.assertTrue(same(sizes_octets(row), (len(row),) + row))
            self.assertTrue(same(sizes_octets(sizes=list(row)), (len(row),) + row))
        for row in ALL_PAGES:
            told = number_octets(len(row))
            for page in row:
                told += number_octets(page)
            self.assertTrue(same(pages_octets(row), told))
            self.assertTrue(same(pages_octets(pages=list(row)), told))

    def test_requests(self):
        told = {("take", 1): (0,), ("take", 3): (1,), ("take", 6): (2,), ("give", 0): (3,), ("give", 7): (10,),
                ("give", 124): (127,), ("give", 125): (129, 0), ("give", 297): (130, 44)}
        for request, octets in told.items():
            self.assertTrue(same(request_octets(SIZES, request), octets))
            self.assertTrue(same(request_octets(request=list(request), sizes=list(SIZES)), octets))
        self.assertEqual(request_octets((5,), ("give", 0)), (1,))
        row = tuple(told)
        self.assertTrue(same(write_requests(SIZES, row), sum(told.values(), ())))
        self.assertTrue(same(write_requests(requests=list(row), sizes=SIZES), sum(told.values(), ())))
        self.assertTrue(same(write_requests(SIZES, ()), ()))

    def test_arguments_stay(self):
        sizes, pages, requests = [1, 2], [0, 3], [["take", 1], ["give", 4]]
        sizes_octets(sizes), pages_octets(pages), write_requests(sizes, requests), check_requests(sizes, requests)
        self.assertEqual((sizes, pages, requests), ([1, 2], [0, 3], [["take", 1], ["give", 4]]))


class Reading(unittest.TestCase):
    def check_read_back(self, octets, thing, read):
        for ahead in AHEAD:
            for behind in BEHIND:
                row = ahead + octets + behind
                told = (thing, len(ahead) + len(octets))
                self.assertTrue(same(read(row, len(ahead)), told), row)
                self.assertTrue(same(read(list(row), len(ahead)), told), row)

    def test_read_back(self):
        for row in ALL_SIZES:
            self.check_read_back(sizes_octets(row), row, sizes_at)
        for row in ALL_PAGES:
            self.check_read_back(pages_octets(row), row, pages_at)
        for request in REQUESTS:
            self.check_read_back(request_octets(SIZES, request), request, lambda row, at: request_at(SIZES, row, at))
        self.assertEqual(sizes_at(at=1, octets=(0, 1, 5)), ((5,), 3))
        self.assertEqual(pages_at(at=1, octets=(9, 0)), ((), 2))
        self.assertEqual(request_at(at=1, octets=[9, 9], sizes=[2, 4]), (("give", 7), 2))

    def test_spoiled_sizes_and_pages(self):
        for row in ALL_SIZES:
            for octets in spoiled((7,) + sizes_octets(row) + (5,)):
                told = expected_row(octets, 1, range(1, 6), size_stands)
                self.assertTrue(same(outcome(sizes_at, octets, 1), told), octets)
        for row in ALL_PAGES:
            for octets in spoiled((7,) + pages_octets(row) + (5,)):
                told = expected_row(octets, 1, range(65), page_stands)
                self.assertTrue(same(outcome(pages_at, octets, 1), told), octets)

    def test_what_is_read_is_written_so(self):
        for row in ALL_SIZES:
            for octets in spoiled(sizes_octets(row)):
                told = outcome(sizes_at, octets, 0)
                if told[0] == "row":
                    self.assertEqual(sizes_octets(told[1]), octets[:told[2]])
        for octets in spoiled(pages_octets((1, 127, 300))):
            told = outcome(pages_at, octets, 0)
            if told[0] == "row":
                self.assertEqual(pages_octets(told[1]), octets[:told[2]])

    def test_what_cannot_stand(self):
        # of each: reader, octets, place from which it is read, place that is told
        rows = (
            (sizes_at, (0,), 0, 0), (sizes_at, (6, 1, 2, 4, 8, 16, 32), 0, 0), (sizes_at, (9, 130, 44, 1), 1, 1),
            (sizes_at, (130,), 0, 1), (sizes_at, (128, 1), 0, 0), (sizes_at, (2, 2, 128, 4), 0, 2),
            (sizes_at, (1, 0), 0, 1), (sizes_at, (1, 65), 0, 1), (sizes_at, (1, 130, 44), 0, 1),
            (sizes_at, (1, 130), 0, 2), (sizes_at, (2, 2, 2), 0, 2), (sizes_at, (2, 2, 3), 0, 2),
            (sizes_at, (3, 4, 2, 1), 0, 2), (sizes_at, (3, 1, 2), 0, 3), (sizes_at, (), 0, 0), (sizes_at, (1,), 9, 1),
            (pages_at, (65,), 0, 0), (pages_at, (130, 44, 0), 0, 0), (pages_at, (2, 0, 0), 0, 2),
            (pages_at, (2, 130, 44, 130, 44), 0, 3), (pages_at, (2, 130, 44, 5), 0, 3), (pages_at, (2, 3, 2), 0, 2),
            (pages_at, (64,) + tuple(range(63)), 0, 64), (pages_at, (2, 1), 0, 2), (pages_at, (1, 128, 0), 0, 1),
            (pages_at, (), 10 ** 31, 0),
        )
        for read, octets, at, place in rows:
            with self.subTest(octets):
                self.assertEqual(caught(Broken, read, octets, at).at, place)

    def test_spoiled_request(self):
        for request in REQUESTS:
            for octets in spoiled((7,) + request_octets(SIZES, request) + (5,)):
                told, broken = numbers_of(octets, 1)
                if told:
                    number, _, behind = told[0]
                    name = ("take", SIZES[number]) if number < 3 else ("give", number - 3)
                    self.assertTrue(same(request_at(SIZES, octets, 1), (name, behind)), octets)
                    self.assertEqual(request_octets(SIZES, name), octets[1:behind])
                else:
                    place = len(octets) if broken is None else broken
                    self.assertEqual(caught(Broken, request_at, SIZES, octets, 1).at, place)

    def test_read_requests(self):
        for sizes in ALL_SIZES:
            row = tuple(("take", size) for size in sizes) + (("give", 10 ** 31), ("give", 0), ("give", 300))
            octets = write_requests(sizes, row)
            self.assertTrue(same(read_requests(sizes, octets), (row, len(octets))))
            self.assertTrue(same(read_requests(octets=list(octets), sizes=list(sizes)), (row, len(octets))))
            for other in spoiled(octets):
                told = outcome(read_requests, sizes, other)
                self.assertTrue(same(told, expected_requests(sizes, other)), other)
                if told[0] == "row":
                    self.assertEqual(write_requests(sizes, told[1]), other[:told[2]])
        self.assertTrue(same(read_requests(SIZES, []), ((), 0)))

    def test_last_request_not_whole(self):
        self.assertEqual(read_requests(SIZES, (130,)), ((), 0))
        self.assertEqual(read_requests(SIZES, (2, 3, 130, 128)), ((("take", 6), ("give", 0)), 2))
        self.assertEqual(caught(Broken, read_requests, SIZES, (2, 3, 128)).at, 2)
        self.assertEqual(caught(Broken, read_requests, SIZES, (128,)).at, 0)
        self.assertEqual(caught(Broken, read_requests, SIZES, (130, 44, 128, 7, 255)).at, 2)

    def test_many_requests(self):
        row = tuple(("give", handle) for handle in range(1000))
        octets = write_requests(SIZES, row)
        self.assertEqual(read_requests(SIZES, octets), (row, len(octets)))

    def test_no_octets_and_no_place(self):
        readers = (sizes_at, pages_at, lambda octets, at: request_at(SIZES, octets, at))
        for read in readers:
            for value in NO_SEQUENCES:
                self.assertEqual(caught(BadOctets, read, value, None).at, -1)
            for item in (True, -1, 256, "1", None, ()):
                self.assertEqual(caught(BadOctets, read, (1, item, None), -1).at, 1)
            for value in NO_NUMBERS:
                self.assertIs(caught(Refused, read, (128,), value).value, value)
        for value in NO_SEQUENCES:
            self.assertEqual(caught(BadOctets, read_requests, SIZES, value).at, -1)
        self.assertEqual(caught(BadOctets, read_requests, SIZES, (128, 0, 256)).at, 2)


if __name__ == "__main__":
    unittest.main()
