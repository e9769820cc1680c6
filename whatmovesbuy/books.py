"""Journals: a keeper, how it was at the beginning, and all that was asked of it and served since."""

from whatmovesbuy.errors import Broken, NoBlock, NoRoom, Refused
from whatmovesbuy.keeper import Keeper
from whatmovesbuy.pictures import picture_at, picture_octets
from whatmovesbuy.sizes import pages_at, pages_octets, sizes_at, sizes_octets
from whatmovesbuy.words import check_octets, is_number, need_number, number_octets
from whatmovesbuy.words import place_behind, read_number, row_octets

# The deeds of records that tell a number of its own; a record that takes tells the level of its size instead.
DEEDS = ("give", "put", "drop")


def _record_number(sizes, record):
    """Return the number that tells a record."""
    deed, number = record
    if deed == "take":
        return sizes.index(number)
    return len(sizes) + len(DEEDS) * number + DEEDS.index(deed)


def _record_of(sizes, number):
    """Return the record that a number tells."""
    if number < len(sizes):
        return "take", sizes[number]
    told = number - len(sizes)
    return DEEDS[told % len(DEEDS)], told // len(DEEDS)


class Journal:
    """A keeper, and a record of each thing that it served."""

    def __init__(self, sizes, pages, picture=(), taken=0):
        self.keeper = Keeper(sizes, pages, picture, taken)
        self._beginning = self._standing()
        self._records = []

    def _standing(self):
        """Return all that a keeper is made of, as it stands."""
        return self.keeper.sizes, self.keeper.pages, self.keeper.picture(), self.keeper.taken

    def take(self, size):
        """Let the keeper take a block of this size; return its handle and the moves."""
        told = self.keeper.take(size)
        self._records.append(("take", size))
        return told

    def give(self, handle):
        """Let the keeper take the block with this handle out; return the moves."""
        told = self.keeper.give(handle)
        self._records.append(("give", handle))
        return told

    def put_page(self, number):
        """Put a free page in."""
        self.keeper.put_page(number)
        self._records.append(("put", number))

    def drop_page(self, number):
        """Take a free page out."""
        self.keeper.drop_page(number)
        self._records.append(("drop", number))

    def lead(self, record):
        """Do what a record tells; return what the method that does it returns."""
        deed, number = record
        if deed == "take":
            return self.take(number)
        if deed == "give":
            return self.give(number)
        if deed == "put":
            return self.put_page(number)
        if deed == "drop":
            return self.drop_page(number)
        raise Refused(record)

    def picture(self):
        """Return the keeper's picture."""
        return self.keeper.picture()

    def records(self):
        """Return all records, in order."""
        return tuple(self._records)

    def octets(self):
        """Return the octets of the beginning, and those of each record."""
        sizes, pages, picture, taken = self._beginning
        ahead = sizes_octets(sizes) + pages_octets(pages) + picture_octets(sizes, pages, picture)
        numbers = [_record_number(sizes, record) for record in self._records]
        return ahead + number_octets(taken) + row_octets(numbers)

    def rewound(self, many):
        """Return another journal, as this one was when it had so many records."""
        if not is_number(many) or many > len(self._records):
            raise Refused(many)
        again = Journal(*self._beginning)
        for record in self.records()[:many]:
            again.lead(record)
        return again

    def folded(self):
        """Return another journal that begins where this one stands, without records."""
        beginning = self._standing()
        return Journal(*beginning)


def _beginning_at(octets, at):
    """Return the journal whose beginning is written at this place, and the place behind it."""
    sizes, pages_place = sizes_at(octets, at)
    pages, picture_place = pages_at(octets, pages_place)
    picture, taken_place = picture_at(sizes, pages, octets, picture_place)
    taken, behind = read_number(octets, taken_place)
    try:
        return Journal(sizes, pages, picture, taken), behind
    except Refused:
        raise Broken(taken_place) from None


def opened(octets, at=0):
    """Return the journal whose octets begin at this place, and the place behind the last of its whole records."""
    row = check_octets(octets)
    journal, behind = _beginning_at(row, need_number(at))
    sizes = journal.keeper.sizes
    while place_behind(row, behind) is not None:
        number, end = read_number(row, behind)
        try:
            journal.lead(_record_of(sizes, number))
        except (NoRoom, NoBlock, Refused):
            raise Broken(behind) from None
        behind = end
    return journal, behind
