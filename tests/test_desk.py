"""Promises [69] to [71]: lines, the desk that is told them, and a desk that is resumed."""

import inspect
import random
import unittest

from tests.models import behind
from tests.rows import walk
from tests.test_books import beginning, record_row, some_records
from tests.test_keeper import NO_KINDS, WORLDS
from tests.test_keeper import seen as keeper_seen
from tests.test_sizes import WRONG_PAGES, WRONG_SIZES
from tests.values import ANY, NO_NUMBERS, NO_SEQUENCES, caught, same
from tests.worlds import hole_row
from whatmovesbuy.books import Journal, opened
from whatmovesbuy.desk import Desk, read_line, resumed, write_line
from whatmovesbuy.errors import BadOctets, BadPages, BadSizes, BadText, Broken, NoBlock, NoRoom, Refused
from whatmovesbuy.keeper import least_moves
from whatmovesbuy.meaning import verdict

COUNTED = ("take", "give", "put", "drop", "buys")
BARE = ("show", "room", "holes", "journal", "back")
NUMBERS = (0, 1, 9, 10, 12, 100, 10 ** 17, 10 ** 18 - 1, 123456789012345678)
# of each text that is no line: the place that is told
WRONG = {
    "": 0, " ": 0, "  ": 0, " take 1": 0, "take": 1, "take ": 1, "take  1": 1, "take 1 ": 2, "take 1  ": 2, "take 1 2": 2,
    "take x y": 1, "take 1x": 1, "take -1": 1, "take +1": 1, "take 01": 1, "take 00": 1, "take 1.": 1, "take 1_0": 1,
    "take 1000000000000000000": 1, "take 0000000000000000001": 1, "take 9" + "9" * 18: 1, "take \u0661": 1, "take \u00b2": 1,
    "take 1\n": 1, "take\t1": 0, "take\n": 0, "Take 1": 0, "TAKE 1": 0, "tak 1": 0, "takes 1": 0, "1": 0, "1 take": 0,
    "give": 1, "put": 1, "drop": 1, "buys": 1, "buys x": 1, "buys 1 1": 2, "show ": 1, "show 1": 1, "show  ": 1, " show": 0,
    "room 0": 1, "holes x": 1, "journal 7 8": 1, "back 1": 1, "back ": 1, "show\n": 0, "shows": 0, "take take": 1,
    "show show": 1, "0": 0, "take 1 x y": 2, "nothing 1 2 3": 0, "take " + "1" * 95: 1, "x" * 100: 0, "take 0 0": 2,
    "give 1 ": 2, "put 0x1": 1, "drop 1e3": 1, "drop  ": 1, "take 1,": 1, "take '1'": 1,
}


class Lines(unittest.TestCase):
    def test_every_deed(self):
        for deed in COUNTED:
            for number in NUMBERS:
                self.assertTrue(same(read_line(f"{deed} {number}"), (deed, number)))
                self.assertTrue(same(write_line(deed, number), f"{deed} {number}"))
        for deed in BARE:
            self.assertTrue(same(read_line(deed), (deed, None)))
            self.assertTrue(same(write_line(deed), deed))
            self.assertTrue(same(write_line(deed, None), deed))
        self.assertEqual(read_line(text="put 5"), ("put", 5))
        self.assertEqual(write_line(number=5, deed="put"), "put 5")

    def test_what_was_written_is_read(self):
        chance = random.Random(1)
        for _ in range(300):
            deed = chance.choice(COUNTED + BARE)
            number = chance.randrange(10 ** chance.randrange(1, 19)) if deed in COUNTED else None
            self.assertTrue(same(read_line(write_line(deed, number)), (deed, number)))

    def test_what_is_read_is_written_so(self):
        # lines spoiled by chance: each is refused, or written just as it was read
        chance, read = random.Random(2), 0
        signs = "take give put 0123 9show room  back"
        for _ in range(4000):
            text = write_line(*chance.choice((("take", 10), ("give", 0), ("show",), ("buys", 123), ("back",), ("drop", 9))))
            for _ in range(chance.randrange(3)):
                at = chance.randrange(len(text) + 1)
                text = text[:at] + chance.choice(("", chance.choice(signs))) + text[at + chance.randrange(2):]
            try:
                told = read_line(text)
            except BadText:
                continue
            self.assertEqual(write_line(*told), text)
            read += 1
        self.assertGreater(read, 500)

    def test_texts_that_are_no_lines(self):
        for text, at in WRONG.items():
            self.assertEqual(caught(BadText, read_line, text).at, at, text)
            self.assertEqual(caught(BadText, Desk((1, 2), (0,)).tell, text).at, at, text)

    def test_values_that_are_no_strings(self):
        for value in ANY + NO_SEQUENCES + (b"show", ("show",), ["take 1"], 1):
            if not isinstance(value, str):
                self.assertEqual(caught(BadText, read_line, value).at, -1)
                self.assertEqual(caught(BadText, Desk((1, 2), (0,)).tell, value).at, -1)

    def test_deeds_that_are_none(self):
        for value in ANY + ("", "Take", "take 1", "take ", "shows", "tell", ["take"], ("show",)):
            if value in ("take", "give"):
                continue
            for number in (None, 1, "x", -1):
                self.assertIs(caught(Refused, write_line, value, number).value, value)
            self.assertIs(caught(Refused, write_line, value).value, value)

    def test_numbers_that_are_none(self):
        for deed in COUNTED:
            for value in NO_NUMBERS + (10 ** 18, 10 ** 18 + 1, 10 ** 31, 10 ** 5000, "1"):
                self.assertIs(caught(Refused, write_line, deed, value).value, value)
            self.assertIsNone(caught(Refused, write_line, deed).value)
        for deed in BARE:
            for value in ANY + (0, 1, False, "", ()):
                if value is not None:
                    self.assertIs(caught(Refused, write_line, deed, value).value, value)
        self.assertEqual(inspect.signature(write_line).parameters["number"].default, None)


class Model:
    """A desk, by the words of the document, over the records of a journal."""

    def __init__(self, *start):
        self.start, self.done = start, []
        self.journal = Journal(*start)

    def move_row(self, moves):
        """What is told behind of moves."""
        return "".join(f"; {handle} to {place}" for handle, place in moves)

    def tell(self, deed, number=None):
        """The answer."""
        keeper = self.journal.keeper
        if deed in ("take", "give", "put", "drop"):
            try:
                told = self.journal.lead((deed, number))
            except NoRoom:
                return "no room"
            except NoBlock:
                return "no block"
            except Refused:
                return "refused"
            self.done.append((deed, number))
            if deed == "take":
                place, = [place for handle, _, place in keeper.picture() if handle == told[0]]
                return f"{told[0]} at {place}" + self.move_row(told[1])
            return {"give": "given", "put": "put", "drop": "dropped"}[deed] + (self.move_row(told) if told else "")
        if deed == "show":
            return "; ".join("%d is %d at %d" % block for block in keeper.picture()) or "empty"
        if deed == "holes":
            row = hole_row(keeper.sizes, keeper.pages, keeper.picture())
            return "; ".join(f"{keeper.sizes[level]} at {place}" for level, place in row) or "none"
        if deed == "room":
            return f"{keeper.room()} free; {keeper.waiting()} waiting; {keeper.kind()}"
        if deed == "journal":
            row = beginning(*self.start) + sum([record_row(self.start[0], record) for record in self.done], ())
            return " ".join(map(str, row))
        if deed == "back":
            if not self.done:
                return "refused"
            self.done.pop()
            self.journal = Journal(*self.start)
            for record in self.done:
                self.journal.lead(record)
            return f"back to {len(self.done)}"
        if not keeper.pages:
            return "refused"
        told = verdict(keeper.sizes, keeper.pages, number)
        return f"full: {told[1]} needed" if told[0] == "full" else f"beaten within {told[2]}: {told[1]} needed"


def ask_all(test, desk, model, chance, many, seen):
    """Tell a desk and its model the same lines, and note what was told."""
    for record in some_records(chance, model.journal.keeper, many):
        if record[1] >= 10 ** 18:
            continue
        lines = [write_line(*record), chance.choice(("show", "holes", "room", "journal", f"buys {chance.randrange(12)}"))]
        for line in lines:
            told = model.tell(*read_line(line))
            test.assertTrue(same(desk.tell(line), told), line)
            seen.add(told if told[:1].isalpha() and ";" not in told else told.split(" ")[1] if " " in told else told)


class Desks(unittest.TestCase):
    def test_as_the_model(self):
        seen = set()
        for at, (sizes, pages) in enumerate(WORLDS):
            chance = random.Random(at)
            desk, model = Desk(list(sizes), list(pages)), Model(sizes, pages)
            for _ in range(4):
                ask_all(self, desk, model, chance, 25, seen)
                # back again, behind deeds of all kinds and behind refusals
                for _ in range(chance.randrange(6)):
                    self.assertEqual(desk.tell("back"), model.tell("back"))
                    self.assertEqual(desk.journal.records(), tuple(model.done))
                    self.assertEqual(keeper_seen(desk.journal.keeper), keeper_seen(model.journal.keeper))
        self.assertLessEqual({"no room", "no block", "refused", "given", "put", "dropped", "empty", "none"}, seen)

    def test_beginning(self):
        desk = Desk(pages=[3, 5], sizes=[1, 2, 6])
        self.assertIsInstance(desk.journal, Journal)
        self.assertTrue(same((desk.journal.records(), desk.journal.picture(), desk.journal.keeper.pages), ((), (), (3, 5))))
        self.assertEqual([desk.tell(line) for line in ("show", "holes", "room", "journal", "back")],
                         ["empty", "6 at 18; 6 at 30", "12 free; 0 waiting; smooth", "3 1 2 6 2 3 5 0 0", "refused"])
        self.assertEqual(desk.tell(text="take 6"), "0 at 18")

    def test_faults(self):
        for value, at in WRONG_SIZES + tuple((value, -1) for value in NO_SEQUENCES):
            self.assertEqual(caught(BadSizes, Desk, value, None).at, at)
        for value, at in WRONG_PAGES + tuple((value, -1) for value in NO_SEQUENCES):
            self.assertEqual(caught(BadPages, Desk, (1,), value).at, at)

    def test_moves_are_told(self):
        desk = Desk((1, 2, 4), (0, 1))
        told = [desk.tell(f"take {size}") for size in (2, 1, 1, 2, 1, 1)]
        self.assertEqual(told, ["0 at 0", "1 at 2", "2 at 3", "3 at 4", "4 at 6", "5 at 7"])
        self.assertEqual([desk.tell(line) for line in ("holes", "room", "take 1", "give 1", "give 3", "holes", "give 4")],
                         ["none", "0 free; 0 waiting; smooth", "no room", "given", "given", "1 at 2; 2 at 4",
                          "given; 2 to 6"])
        self.assertEqual([desk.tell(line) for line in ("room", "holes", "show")],
                         ["4 free; 2 waiting; page", "2 at 2; 2 at 4", "0 is 2 at 0; 2 is 1 at 6; 5 is 1 at 7"])
        self.assertEqual(desk.tell("take 4"), "6 at 0; 0 to 4")
        self.assertEqual([desk.tell("back"), desk.tell("room"), desk.tell("take 4")],
                         ["back to 9", "4 free; 2 waiting; page", "6 at 0; 0 to 4"])
        # two moves at once, each told by itself
        desk = Desk((1, 2, 4), (0, 1, 2))
        for size in (1, 1, 2, 2, 2, 4):
            desk.tell(f"take {size}")
        self.assertEqual([desk.tell("give 2"), desk.tell("give 3")], ["given", "given; 0 to 4; 1 to 5"])

    def test_refused(self):
        desk = Desk((1, 2), (0, 4))
        desk.tell("take 2")
        told = (desk.tell("show"), desk.tell("journal"), desk.tell("room"))
        for line, answer in (("take 0", "refused"), ("take 3", "refused"), ("give 1", "no block"), ("give 9", "no block"),
                             ("put 0", "refused"), ("put 4", "refused"), ("drop 0", "refused"), ("drop 1", "refused"),
                             ("take 999999999999999999", "refused"), ("give 999999999999999999", "no block")):
            self.assertEqual(desk.tell(line), answer)
            self.assertEqual((desk.tell("show"), desk.tell("journal"), desk.tell("room")), told)
        self.assertEqual([desk.tell(line) for line in ("drop 4", "take 1", "put 999999999999999999", "take 1", "show")],
                         ["dropped", "no room", "put", "1 at 1999999999999999998",
                          "0 is 2 at 0; 1 is 1 at 1999999999999999998"])
        many = Desk((1,), tuple(range(64)))
        self.assertEqual(many.tell("put 64"), "refused")
        self.assertEqual([many.tell("drop 3"), many.tell("put 64")], ["dropped", "put"])

    def test_lines_that_are_none_change_nothing(self):
        desk = Desk((1, 2), (0, 4))
        desk.tell("take 2"), desk.tell("take 1"), desk.tell("give 0")
        told, journal = (desk.tell("show"), desk.tell("journal")), desk.journal
        for text in list(WRONG) + [None, 1, b"back"]:
            caught(BadText, desk.tell, text)
            self.assertIs(desk.journal, journal)
            self.assertEqual((desk.tell("show"), desk.tell("journal")), told)

    def test_back(self):
        desk = Desk((1, 2), (0,))
        lines = ("take 1", "put 3", "take 2", "give 0", "drop 0", "take 2", "take 1", "put 0")
        told = []
        for line in lines:
            told.append((desk.tell("show"), desk.tell("journal"), desk.tell("room"), desk.journal.keeper.pages))
            answer = desk.tell(line)
            if answer in ("no room", "no block", "refused"):
                told.pop()
        self.assertEqual(desk.tell("take 64"), "refused")
        for many in reversed(range(len(told))):
            self.assertEqual(desk.tell("back"), f"back to {many}")
            self.assertEqual((desk.tell("show"), desk.tell("journal"), desk.tell("room"), desk.journal.keeper.pages),
                             told[many])
        self.assertEqual([desk.tell("back"), desk.tell("back"), desk.tell("journal")], ["refused", "refused", "2 1 2 1 0 0 0"])
        self.assertEqual([desk.tell("take 2"), desk.tell("back")], ["0 at 0", "back to 0"])

    def test_buys(self):
        desk = Desk((1, 2, 6), (0, 1))
        self.assertEqual([desk.tell(f"buys {moves}") for moves in (0, 1, 2, 3, 10 ** 18 - 1)],
                         ["beaten within 10: 2 needed"] * 2 + ["full: 2 needed"] * 3)
        # the pages that are there now: one alone, three, none
        self.assertEqual([desk.tell("drop 0"), desk.tell("buys 0"), desk.tell("buys 1")],
                         ["dropped", "beaten within 9: 1 needed", "full: 1 needed"])
        self.assertEqual([desk.tell("put 7"), desk.tell("put 8"), desk.tell("buys 1"), desk.tell("buys 2")],
                         ["put", "put", "beaten within 13: 2 needed", "full: 2 needed"])
        for line in ("drop 1", "drop 7", "drop 8"):
            self.assertEqual(desk.tell(line), "dropped")
        self.assertEqual([desk.tell("buys 0"), desk.tell("buys 5"), desk.tell("holes"), desk.tell("room")],
                         ["refused", "refused", "none", "0 free; 0 waiting; smooth"])
        self.assertEqual(desk.tell("back"), "back to 5")
        self.assertEqual(desk.tell("buys 0"), "beaten within 9: 1 needed")
        self.assertEqual(Desk((5,), (0,)).tell("buys 0"), "full: 0 needed")


class Resumed(unittest.TestCase):
    def test_from_each_beginning_of_its_octets(self):
        for at, (sizes, pages) in enumerate(WORLDS[:8]):
            chance = random.Random(at)
            model = Model(sizes, pages)
            ask_all(self, Desk(sizes, pages), model, chance, 12, set())
            octets, first = model.journal.octets(), len(beginning(sizes, pages))
            for cut in range(len(octets) + 1):
                if cut < first:
                    self.assertEqual(caught(Broken, resumed, octets[:cut]).at, cut)
                    continue
                desk, place = resumed(octets[:cut])
                self.assertIsInstance(desk, Desk)
                self.assertEqual(place, opened(octets[:cut])[1])
                twin = Model(sizes, pages)
                for record in desk.journal.records():
                    twin.tell(*record)
                self.assertEqual(desk.tell("journal"), twin.tell("journal"))
                ask_all(self, desk, twin, random.Random(cut), 4, set())
                while twin.done:
                    self.assertEqual(desk.tell("back"), twin.tell("back"))
                self.assertEqual([desk.tell("back"), desk.tell("show"), desk.tell("journal")],
                                 ["refused", twin.tell("show"), twin.tell("journal")])

    def test_with_blocks_from_the_beginning(self):
        start = ((1, 2), (0, 4), ((3, 2, 0), (700, 1, 8)), 800)
        octets = beginning(*start)
        desk, place = resumed(octets=list(octets) + [129])
        self.assertTrue(same(place, len(octets)))
        self.assertEqual([desk.tell(line) for line in ("show", "take 1", "back", "back", "take 2")],
                         ["3 is 2 at 0; 700 is 1 at 8", "800 at 9", "back to 0", "refused", "no room"])

    def test_errors_as_opened(self):
        for value in NO_SEQUENCES:
            self.assertEqual(caught(BadOctets, resumed, value).at, -1)
        for value in NO_NUMBERS + (256, 10 ** 31):
            self.assertEqual(caught(BadOctets, resumed, (2, 1, value)).at, 2)
        for octets, at in (((), 0), ((0,), 0), ((2, 1, 2, 1, 0, 0, 0, 128), 7), ((2, 1, 2, 1, 0, 0, 0, 3), 7), ((2, 1), 2),
                           ((2, 1, 2, 1, 0, 0, 0, 0, 0, 0), 9), ((2, 1, 2, 1, 0, 1, 4, 1, 0, 4), 9)):
            self.assertEqual(caught(Broken, resumed, octets).at, at)
        for sizes, pages, picture in NO_KINDS:
            octets = beginning(sizes, pages, picture, 99)
            self.assertEqual(caught(Broken, resumed, octets).at, len(octets) - 1)


class ThroughLinesAlone(unittest.TestCase):
    def test_full_use(self):
        for at, (sizes, pages) in enumerate(WORLDS):
            self.tell_rows(Desk(sizes, pages), sizes, random.Random(at))

    def tell_rows(self, desk, sizes, chance):
        """No room only where fewer cells are free; what is moved is read off the answers."""
        store, picture, moved_some = LineStore(desk, sizes), (), 0
        for (deed, number), told in walk(chance, store, store.room, 250):
            start = picture if deed == "take" else tuple(block for block in picture if block[0] != number)
            picture, paid = behind(sizes, desk.journal.keeper.pages, start, store.moves)
            self.assertLessEqual(paid, least_moves(sizes))
            if deed == "take":
                picture += ((told[0], number, store.place),)
            self.assertEqual(desk.tell("show"), "; ".join("%d is %d at %d" % block for block in picture) or "empty")
            for size in sizes:
                if size > store.room():
                    self.assertEqual(desk.tell(f"take {size}"), "no room")
            moved_some += paid
        if len(sizes) > 1 and len(desk.journal.keeper.pages) > 1:
            self.assertGreater(moved_some, 0)


class LineStore:
    """A store that is asked by lines, and told by answers; it must not refuse."""

    def __init__(self, desk, sizes):
        self.desk, self.sizes, self.moves, self.place = desk, sizes, (), None

    def room(self):
        """How many cells are free."""
        return int(self.desk.tell("room").split(" ")[0])

    def take(self, size):
        """(handle, moves)."""
        first, *rest = self.desk.tell(f"take {size}").split("; ")
        handle, word, place = first.split(" ")
        assert word == "at", first
        self.read_moves(rest)
        self.place = int(place)
        return int(handle), self.moves

    def give(self, handle):
        """The moves."""
        first, *rest = self.desk.tell(f"give {handle}").split("; ")
        assert first == "given", first
        self.read_moves(rest)
        return self.moves

    def read_moves(self, parts):
        """The moves that the parts of an answer tell."""
        rows = [part.split(" ") for part in parts]
        assert all(row[1] == "to" and len(row) == 3 for row in rows)
        self.moves = tuple((int(row[0]), int(row[2])) for row in rows)


if __name__ == "__main__":
    unittest.main()
