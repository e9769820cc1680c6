"""Promises [63] to [65]: journals, their octets, and octets that are cut."""

import inspect
import random
import unittest

from tests.rows import some_requests
from tests.test_keeper import NO_KINDS, WORLDS
from tests.test_keeper import seen as keeper_seen
from tests.test_sizes import WRONG_PAGES, WRONG_SIZES
from tests.values import ANY, NO_NUMBERS, NO_SEQUENCES, caught, same
from whatmovesbuy.books import Journal, opened
from whatmovesbuy.errors import BadOctets, BadPages, BadPicture, BadSizes, Broken, NoBlock, NoRoom, Refused
from whatmovesbuy.keeper import Keeper


def number_row(number):
    """The octets of a number, written by the tests."""
    row = [number & 127]
    while number := number >> 7:
        row.append(128 | number & 127)
    return tuple(row[::-1])


def written(*numbers):
    """The octets of some numbers, one behind another."""
    return sum(map(number_row, numbers), ())


def beginning(sizes, pages, picture=(), taken=0):
    """The octets of the beginning of a journal."""
    blocks = [part for block in picture for part in block]
    return written(len(sizes), *sizes, len(pages), *pages, len(picture), *blocks, taken)


def record_row(sizes, record):
    """The octets of a record."""
    deed, number = record
    if deed == "take":
        return number_row(sizes.index(number))
    return number_row(len(sizes) + 3 * number + ("give", "put", "drop").index(deed))


def seen(journal):
    """All that a journal tells without being changed."""
    return journal.records(), journal.octets(), journal.picture(), keeper_seen(journal.keeper)


def lead_by(keeper, record):
    """What a keeper answers to what a record tells: what it returns, or its error's class and value."""
    deed, number = record
    call = {"take": keeper.take, "give": keeper.give, "put": keeper.put_page, "drop": keeper.drop_page}[deed]
    try:
        return call(number)
    except NoRoom as told:
        return NoRoom, told.size
    except NoBlock as told:
        return NoBlock, told.handle
    except Refused as told:
        return Refused, told.value


def some_records(chance, keeper, many):
    """Deeds for a keeper, told one by one, some of which it refuses; each is to be done before the next is told."""
    held = {}
    for deed, number in some_requests(chance, keeper, keeper.room, many, held):
        if chance.randrange(6) == 0:
            yield chance.choice((("take", chance.choice(keeper.sizes)), ("give", keeper.taken), ("give", 10 ** 31),
                                 ("put", chance.choice(keeper.pages or (0,))), ("drop", 10 ** 30), ("take", 5 * 64)))
            held.clear()
            held.update({handle: size for handle, size, _ in keeper.picture()})
            deed, number = ("give", min(held)) if held else ("put", max(keeper.pages, default=0) + 1)
        if chance.randrange(5) == 0 and len(keeper.pages) < 6:
            yield "put", chance.choice([page for page in range(20) if page not in keeper.pages])
        if chance.randrange(3) == 0 and keeper.free_pages():
            yield "drop", chance.choice(keeper.free_pages())
        yield deed, number
        held.clear()
        held.update({handle: size for handle, size, _ in keeper.picture()})


def some_journals(many=40, seed=1):
    """(beginning, records served, journal) of some journals, some of which begin with blocks."""
    for at, (sizes, pages) in enumerate(WORLDS):
        chance = random.Random(seed + at)
        first = Journal(sizes, pages)
        for record in some_records(chance, first.keeper, many):
            try:
                first.lead(record)
            except (NoRoom, NoBlock, Refused):
                pass
        yield (sizes, pages), first
        keeper = first.keeper
        start = (sizes, keeper.pages, keeper.picture(), keeper.taken + chance.randrange(300))
        second = Journal(*start)
        for record in some_records(chance, second.keeper, many // 2):
            try:
                second.lead(record)
            except (NoRoom, NoBlock, Refused):
                pass
        yield start, second


class Journals(unittest.TestCase):
    def test_beginning(self):
        for sizes, pages in WORLDS:
            self.assertTrue(same(seen(Journal(list(sizes), list(pages))),
                                 ((), beginning(sizes, pages), (), keeper_seen(Keeper(sizes, pages)))))
        picture = [[0, 1, 18], [4, 2, 20]]
        journal = Journal(taken=7, picture=picture, pages=[3, 5], sizes=[1, 2, 6])
        picture[0][0] = 9
        picture.clear()
        self.assertIsInstance(journal.keeper, Keeper)
        self.assertTrue(same(journal.picture(), ((0, 1, 18), (4, 2, 20))))
        self.assertEqual(journal.take(1)[0], 7)
        self.assertEqual(journal.records(), (("take", 1),))
        self.assertEqual([part.default for part in inspect.signature(Journal).parameters.values()][2:], [(), 0])

    def test_errors_as_the_keepers(self):
        for value, at in WRONG_SIZES + tuple((value, -1) for value in NO_SEQUENCES):
            self.assertEqual(caught(BadSizes, Journal, value, None, None, None).at, at)
        for value, at in WRONG_PAGES + tuple((value, -1) for value in NO_SEQUENCES):
            self.assertEqual(caught(BadPages, Journal, (1, 2, 6), value, None, None).at, at)
        for value, at in (((None,), 0), (((0, 1, 0), (0, 1, 1)), 1), (((0, 2, 1),), 0), (None, -1), ("", -1)):
            self.assertEqual(caught(BadPicture, Journal, (1, 2, 6), (0,), value, None).at, at)
        for sizes, pages, picture in NO_KINDS:
            self.assertIs(caught(Refused, Journal, sizes, pages, picture, None).value, picture)
        for value in NO_NUMBERS + (0, 3):
            self.assertIs(caught(Refused, Journal, (1, 2), (0,), ((3, 2, 0),), value).value, value)

    def test_as_a_keeper(self):
        tried = {}
        for at, (sizes, pages) in enumerate(WORLDS):
            journal, keeper, records = Journal(sizes, pages), Keeper(sizes, pages), []
            for record in some_records(random.Random(at), keeper, 70):
                told = lead_by(keeper, record)
                ahead = seen(journal)
                self.assertTrue(same(lead_by_journal(journal, record), told))
                if isinstance(told, tuple) and told and told[0] in (NoRoom, NoBlock, Refused):
                    self.assertTrue(same(seen(journal), ahead))
                    tried[told[0]] = tried.get(told[0], 0) + 1
                else:
                    records.append(record)
                    tried[record[0]] = tried.get(record[0], 0) + 1
                self.assertTrue(same(journal.records(), tuple(records)))
                self.assertTrue(same(journal.picture(), keeper.picture()))
                self.assertTrue(same(keeper_seen(journal.keeper), keeper_seen(keeper)))
        self.assertEqual(len(tried), 7)
        self.assertGreater(min(tried.values()), 10)

    def test_any_value_is_refused_as_the_keeper_does(self):
        journal = Journal((1, 2), (0, 3))
        journal.take(2), journal.take(1)
        told = seen(journal)
        for value in NO_NUMBERS + (5, 10 ** 31):
            self.assertIs(caught(Refused, journal.take, value).value, value)
            self.assertIs(caught(NoBlock, journal.give, value).handle, value)
            self.assertIs(caught(Refused, journal.drop_page, value).value, value)
        for value in NO_NUMBERS + (0, 3):
            self.assertIs(caught(Refused, journal.put_page, value).value, value)
        self.assertEqual(caught(NoRoom, journal.take, 2).size, 2)
        self.assertTrue(same(seen(journal), told))

    def test_by_names_and_in_lists(self):
        journal = Journal((1, 2), (0, 1))
        self.assertTrue(same(journal.take(size=1), (0, ())))
        self.assertTrue(same(journal.lead(["take", 2]), (1, ())))
        self.assertTrue(same(journal.give(handle=0), ()))
        self.assertIsNone(journal.put_page(number=9))
        self.assertIsNone(journal.drop_page(number=0))
        self.assertIsNone(journal.lead(record=["put", 0]))
        self.assertIsNone(journal.lead(("drop", 9)))
        self.assertTrue(same(journal.records(), (("take", 1), ("take", 2), ("give", 0), ("put", 9), ("drop", 0), ("put", 0),
                                                 ("drop", 9))))
        self.assertEqual(journal.keeper.pages, (0, 1))
        self.assertEqual(caught(Refused, journal.lead, ("move", 0)).value, ("move", 0))

    def test_lead_of_each_record(self):
        for start, journal in some_journals():
            again = Journal(*start)
            keeper = Keeper(*start)
            for record in journal.records():
                self.assertTrue(same(again.lead(record), lead_by(keeper, record)))
            self.assertTrue(same(seen(again), seen(journal)))

    def test_rewound(self):
        for start, journal in some_journals(20):
            told = seen(journal)
            step = Journal(*start)
            for many, record in enumerate(journal.records() + (None,)):
                back = journal.rewound(many)
                self.assertTrue(same(seen(back), seen(step)))
                self.assertIsNot(back, journal)
                if record:
                    step.lead(record)
                    back.lead(record)
                    self.assertTrue(same(seen(back), seen(step)))
            self.assertTrue(same(seen(journal), told))
            for value in NO_NUMBERS + (len(journal.records()) + 1, 10 ** 31):
                self.assertIs(caught(Refused, journal.rewound, value).value, value)
            self.assertEqual(seen(journal.rewound(many=0)), seen(Journal(*start)))

    def test_folded(self):
        for start, journal in some_journals(30):
            told, folded, keeper = seen(journal), journal.folded(), journal.keeper
            self.assertTrue(same(folded.records(), ()))
            self.assertTrue(same(keeper_seen(folded.keeper), keeper_seen(keeper)))
            self.assertTrue(same(folded.octets(), beginning(keeper.sizes, keeper.pages, keeper.picture(), keeper.taken)))
            twin = journal.rewound(len(journal.records()))
            self.go_on_alike(folded, twin, 3)
            self.assertTrue(same(seen(journal), told))
            self.assertTrue(same(seen(folded.rewound(0)), seen(journal.folded())))

    def go_on_alike(self, one, other, seed):
        """Ask two journals the same: they answer alike."""
        for record in some_records(random.Random(seed), one.keeper, 15):
            twin = lead_by_journal(other, record)
            self.assertTrue(same(lead_by_journal(one, record), twin))
            self.assertTrue(same(keeper_seen(one.keeper), keeper_seen(other.keeper)))


def lead_by_journal(journal, record):
    """What a journal answers to a record: what it returns, or its error's class and value."""
    try:
        return journal.lead(record)
    except NoRoom as told:
        return NoRoom, told.size
    except NoBlock as told:
        return NoBlock, told.handle
    except Refused as told:
        return Refused, told.value


class Octets(unittest.TestCase):
    def test_written(self):
        for start, journal in some_journals():
            sizes = start[0]
            told = beginning(*start) + sum([record_row(sizes, record) for record in journal.records()], ())
            self.assertTrue(same(journal.octets(), told))

    def test_told(self):
        journal = Journal((1, 3, 6), (2, 300), ((5, 3, 12),), 130)
        told = (3, 1, 3, 6, 2, 2, 130, 44, 1, 5, 3, 12, 129, 2)
        self.assertTrue(same(journal.octets(), told))
        journal.take(6), journal.take(1), journal.give(5), journal.put_page(50), journal.give(130), journal.drop_page(300)
        self.assertEqual(journal.octets(), told + (2, 0, 3 + 15, 129, 26, 131, 9, 135, 9))

    def test_opened(self):
        for start, journal in some_journals():
            octets = journal.octets()
            again, behind = opened(octets)
            self.assertTrue(same(behind, len(octets)))
            self.assertTrue(same(seen(again), seen(journal)))
            for ahead in ((), (7,), (128, 255, 0), (200,) * 9):
                for tail in ((), (255,), (129, 129)):
                    again, behind = opened(list(ahead + octets + tail), len(ahead))
                    self.assertEqual(behind, len(ahead + octets))
                    self.assertEqual(seen(again), seen(journal))
            # records behind
            again, behind = opened(at=1, octets=(9,) + octets + record_row(start[0], ("put", 900)) + (129,))
            self.assertEqual(again.records(), journal.records() + (("put", 900),))
            self.assertEqual(behind, 1 + len(octets) + len(record_row(start[0], ("put", 900))))
        told = opened((1, 5, 0, 0, 0))
        self.assertIsInstance(told, tuple)
        self.assertEqual((told[0].octets(), told[1]), ((1, 5, 0, 0, 0), 5))

    def test_no_octets_and_no_place(self):
        for value in NO_SEQUENCES:
            self.assertEqual(caught(BadOctets, opened, value, None).at, -1)
        for value in ANY[:-2] + (256, -1, 10 ** 31):
            if not same(value, 0) and not same(value, 1):
                self.assertEqual(caught(BadOctets, opened, (2, 1, 2, value), None).at, 3)
        for value in NO_NUMBERS:
            self.assertIs(caught(Refused, opened, (1, 5, 0, 0, 0), value).value, value)
            self.assertIs(caught(Refused, opened, (), value).value, value)
        for at in (5, 6, 10 ** 31):
            self.assertEqual(caught(Broken, opened, (1, 5, 0, 0, 0), at).at, 5)
        self.assertEqual(caught(Broken, opened, ()).at, 0)
        self.assertEqual([part.default for part in inspect.signature(opened).parameters.values()][1], 0)

    def broken(self, octets, place):
        """Octets that can't stand are told by the place, also with octets ahead."""
        self.assertEqual(caught(Broken, opened, octets).at, place)
        self.assertEqual(caught(Broken, opened, (3, 200) + tuple(octets), 2).at, place + 2)

    def test_beginnings_that_cannot_stand(self):
        good = beginning((1, 2), (0, 4), ((0, 1, 0), (9, 2, 8)), 10)
        self.assertEqual(good, (2, 1, 2, 2, 0, 4, 2, 0, 1, 0, 9, 2, 8, 10))
        self.assertEqual(opened(good)[1], 14)
        wrong = {0: (0, 6, 128, 129), 1: (0, 65, 129, 3, 128), 2: (1, 0, 65), 3: (65, 128), 4: (128,), 5: (0, 128),
                 6: (128,), 7: (128,), 8: (0, 3, 4, 128), 9: (2, 7, 10, 128), 10: (0, 128), 11: (0, 3, 128), 12: (9, 7, 2, 0, 128),
                 13: (0, 9, 128)}
        for place, values in wrong.items():
            for value in values:
                octets = good[:place] + (value,) + good[place + 1:]
                # a number of several octets needs one more to be whole
                if value == 129:
                    octets = good[:place] + (129, 0) + good[place + 1:]
                if (place, value) == (1, 3):
                    # sizes 3 and 2: the second one is none
                    self.broken(octets, 2)
                else:
                    self.broken(octets, place)
        # a block where one ahead holds a cell, and great numbers
        self.broken(beginning((1, 2), (0, 4), ((0, 2, 0), (9, 1, 1)), 10), 12)
        self.broken(written(1, 5, 65), 2)
        self.broken(written(1, 5, 10 ** 31), 2)
        self.broken(written(10 ** 31, 5), 0)
        self.broken(written(1, 5, 1, 0, 10 ** 20), len(written(1, 5, 1, 0, 10 ** 20)))

    def test_beginnings_that_end(self):
        good = beginning((1, 2), (0, 400), ((0, 1, 0), (900, 2, 800)), 1000)
        for many in range(len(good)):
            self.broken(good[:many], many)
        self.assertEqual(opened(good)[1], len(good))

    def test_how_many_were_taken(self):
        for sizes, pages, picture in NO_KINDS:
            octets = beginning(sizes, pages, picture)
            for taken in (0, 99, 1000, 10 ** 31):
                self.broken(octets[:-1] + number_row(taken), len(octets) - 1)
                self.broken(octets[:-1] + number_row(taken) + (0, 0), len(octets) - 1)
            self.broken(octets[:-1], len(octets) - 1)
            self.broken(octets[:-1] + (129,), len(octets))
        octets = beginning((1, 2), (0,), ((200, 1, 0),), 201)
        for taken in range(0, 201, 20):
            self.broken(octets[:-2] + number_row(taken), len(octets) - 2)
        self.assertEqual(opened(octets)[0].take(1), (201, ()))

    def test_records_that_are_refused(self):
        sizes, pages = (1, 2), (0, 200)
        good = beginning(sizes, pages, ((3, 2, 0), (4, 1, 400)), 5)
        for record in (("take", 2), ("give", 0), ("give", 5), ("give", 400), ("put", 0), ("put", 200), ("drop", 0),
                       ("drop", 200), ("drop", 7), ("give", 10 ** 31)):
            for ahead in ((), (("put", 8), ("drop", 8)), (("take", 1), ("give", 5))):
                octets = good + sum([record_row(sizes, one) for one in ahead], ())
                self.broken(octets + record_row(sizes, record), len(octets))
                self.broken(octets + record_row(sizes, record) + (0, 0), len(octets))
        full = beginning((1,), tuple(range(64)))
        self.broken(full + record_row((1,), ("put", 64)), len(full))
        # a block that isn't there any more
        octets = good + record_row(sizes, ("give", 3))
        self.assertEqual(opened(octets)[0].picture(), ((4, 1, 400),))
        self.broken(octets + record_row(sizes, ("give", 3)), len(octets))

    def test_128_where_a_record_begins(self):
        for _, journal in some_journals(10):
            octets = journal.octets()
            self.broken(octets + (128,), len(octets))
            self.broken(octets + (128, 0), len(octets))
            self.assertEqual(opened(octets + (129, 128))[1], len(octets))


class Cut(unittest.TestCase):
    def test_at_each_place(self):
        for start, journal in some_journals(18, 50):
            octets, behind = journal.octets(), len(beginning(*start))
            whole = [behind]
            for record in journal.records():
                whole.append(whole[-1] + len(record_row(start[0], record)))
            self.assertEqual(whole[-1], len(octets))
            for cut in range(behind, len(octets) + 1):
                many = max(at for at, place in enumerate(whole) if place <= cut)
                again, place = opened(octets[:cut])
                self.assertEqual(place, whole[many])
                self.assertTrue(same(seen(again), seen(journal.rewound(many))))
            for cut in range(behind):
                self.assertEqual(caught(Broken, opened, octets[:cut]).at, cut)

    def test_goes_on_alike(self):
        for at, (start, journal) in enumerate(some_journals(16, 90)):
            octets, behind = journal.octets(), len(beginning(*start))
            for cut in range(behind, len(octets) + 1, 4):
                again, _ = opened(octets[:cut])
                twin = journal.rewound(len(again.records()))
                Journals.go_on_alike(self, again, twin, at)
                self.assertTrue(same(seen(again), seen(twin)))


if __name__ == "__main__":
    unittest.main()
