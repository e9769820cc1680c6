"""A desk of lines: deeds that are told to a journal, and its answers, in words."""

from whatmovesbuy.books import Journal, opened
from whatmovesbuy.errors import BadText, NoBlock, NoRoom, Refused
from whatmovesbuy.meaning import verdict
from whatmovesbuy.pictures import holes
from whatmovesbuy.words import is_number

# Deeds that are records of a journal, all deeds with a number, and those without one.
LED = ("take", "give", "put", "drop")
COUNTED = ("take", "give", "put", "drop", "buys")
BARE = ("show", "room", "holes", "journal", "back")


def _is_written_number(word):
    """Tell whether a word is a number in figures, without a 0 ahead."""
    if not 1 <= len(word) <= 18 or (word[0] == "0" and len(word) > 1):
        return False
    return all([figure in "0123456789" for figure in word])


def read_line(text):
    """Return the deed of a line, and its number, None if it has none; BadText(at) for any value that is no line."""
    if not isinstance(text, str):
        raise BadText(-1)
    words = text.split(" ")
    deed = words[0]
    if deed in BARE:
        if len(words) > 1:
            raise BadText(1)
        return deed, None
    if deed not in COUNTED:
        raise BadText(0)
    if len(words) < 2 or not _is_written_number(words[1]):
        raise BadText(1)
    if len(words) > 2:
        raise BadText(2)
    return deed, int(words[1])


def write_line(deed, number=None):
    """Return the line with this deed and number."""
    if deed in BARE:
        if number is not None:
            raise Refused(number)
        return deed
    if deed not in COUNTED:
        raise Refused(deed)
    if not is_number(number) or number >= 10 ** 18:
        raise Refused(number)
    return f"{deed} {number}"


def _listed(parts, empty):
    """Return parts of an answer in one string; what stands for none if there are none."""
    return "; ".join(parts) if parts else empty


def _moves_listed(first, moves):
    """Return an answer that begins so, with moves behind it."""
    return "; ".join([first] + [f"{handle} to {place}" for handle, place in moves])


class Desk:
    """A journal that is told lines."""

    def __init__(self, sizes, pages):
        self.journal = Journal(sizes, pages)

    def tell(self, text):
        """Do what a line tells, and return the answer."""
        deed, number = read_line(text)
        if deed in LED:
            return self._led(deed, number)
        if deed == "buys":
            return self._bought(number)
        if deed == "show":
            return self._shown()
        if deed == "holes":
            return self._free_units()
        if deed == "room":
            keeper = self.journal.keeper
            return f"{keeper.room()} free; {keeper.waiting()} waiting; {keeper.kind()}"
        if deed == "journal":
            return " ".join([str(octet) for octet in self.journal.octets()])
        return self._back()

    def _led(self, deed, number):
        """Lead a record, and return what becomes of it."""
        try:
            told = self.journal.lead((deed, number))
        except NoRoom:
            return "no room"
        except NoBlock:
            return "no block"
        except Refused:
            return "refused"
        if deed == "put":
            return "put"
        if deed == "drop":
            return "dropped"
        if deed == "give":
            return _moves_listed("given", told)
        handle, moves = told
        # The block is the newest one, so its handle is the greatest.
        place = self.journal.picture()[-1][2]
        return _moves_listed(f"{handle} at {place}", moves)

    def _bought(self, number):
        """Return what so many moves buy in the pages that are there."""
        try:
            told = verdict(self.journal.keeper.sizes, self.journal.keeper.pages, number)
        except Refused:
            return "refused"
        if told[0] == "full":
            return f"full: {told[1]} needed"
        return f"beaten within {told[2]}: {told[1]} needed"

    def _shown(self):
        """Return all blocks."""
        return _listed([f"{handle} is {size} at {place}" for handle, size, place in self.journal.picture()], "empty")

    def _free_units(self):
        """Return all holes."""
        sizes = self.journal.keeper.sizes
        found = holes(sizes, self.journal.keeper.pages, self.journal.picture())
        return _listed([f"{sizes[level]} at {place}" for level, place in found], "none")

    def _back(self):
        """Undo the last record."""
        many = len(self.journal.records())
        if many == 0:
            return "refused"
        self.journal = self.journal.rewound(many - 1)
        return f"back to {many - 1}"


def resumed(octets):
    """Return the desk whose journal these octets begin, and the place behind the last of its whole records."""
    journal, behind = opened(octets)
    desk = Desk(journal.keeper.sizes, journal.keeper.pages)
    desk.journal = journal
    return desk, behind
