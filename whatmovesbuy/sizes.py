"""Sizes, levels and pages, the digits of a number of cells, and requests with their octets."""

from whatmovesbuy.errors import BadPages, BadSizes, Broken, NoRoom, Refused
from whatmovesbuy.words import check_octets, is_number, is_sequence, need_number
from whatmovesbuy.words import number_octets, place_behind, read_number, row_octets

MOST_SIZES = 5
GREATEST_SIZE = 64
MOST_PAGES = 64


def _can_be_size(item, ahead):
    """Tell whether any value is a size behind the one ahead (None at the beginning)."""
    if not is_number(item) or not 1 <= item <= GREATEST_SIZE:
        return False
    return ahead is None or (item > ahead and item % ahead == 0)


def _can_be_page(item, ahead):
    """Tell whether any value is a page behind the one ahead (None at the beginning)."""
    return is_number(item) and (ahead is None or item > ahead)


def _first_wrong(row, can_follow):
    """Return the index of the first item that cannot follow the one ahead, None if all can."""
    ahead = None
    for at, item in enumerate(row):
        if not can_follow(item, ahead):
            return at
        ahead = item
    return None


def check_sizes(value):
    """Return any value as sizes, a tuple; BadSizes(at) if it is none."""
    if not is_sequence(value) or not 1 <= len(value) <= MOST_SIZES:
        raise BadSizes(-1)
    wrong = _first_wrong(value, _can_be_size)
    if wrong is not None:
        raise BadSizes(wrong)
    return tuple(value)


def check_pages(value):
    """Return any value as pages, a tuple; BadPages(at) if it is none."""
    if not is_sequence(value) or len(value) > MOST_PAGES:
        raise BadPages(-1)
    wrong = _first_wrong(value, _can_be_page)
    if wrong is not None:
        raise BadPages(wrong)
    return tuple(value)


def sizes_that_count(sizes, pages):
    """Return the sizes that count in these pages, and how many units of the greatest of them there are."""
    # In one page alone a greatest block has room only while nothing else is there.
    if len(pages) == 1 and len(sizes) > 1:
        return sizes[:-1], sizes[-1] // sizes[-2]
    return sizes, len(pages)


def need_counting(sizes, pages):
    """Look at sizes and pages, and return what sizes_that_count does; Refused(pages) if there is no page."""
    told = check_sizes(sizes)
    row = check_pages(pages)
    if not row:
        raise Refused(pages)
    return sizes_that_count(told, row)


def ratios(sizes):
    """Return how often each size but the greatest goes into the next one."""
    sizes = check_sizes(sizes)
    return tuple([sizes[level + 1] // sizes[level] for level in range(len(sizes) - 1)])


def need_size(sizes, value):
    """Return the level of a size; Refused(value) for any other value."""
    sizes = check_sizes(sizes)
    if not is_number(value) or value not in sizes:
        raise Refused(value)
    return sizes.index(value)


def need_level(sizes, level):
    """Return a level of these sizes; Refused(level) for any other value."""
    sizes = check_sizes(sizes)
    if not is_number(level) or level >= len(sizes):
        raise Refused(level)
    return level


def digits(sizes, number):
    """Return the digits of a number of cells, by level."""
    sizes = check_sizes(sizes)
    if not is_number(number) or number % sizes[0] != 0:
        raise Refused(number)
    found = []
    rest = number
    for size in reversed(sizes):
        found.append(rest // size)
        rest = rest % size
    return tuple(found[::-1])


def _is_digits(sizes, value):
    """Tell whether any value is digits of sizes that have been looked at."""
    if not is_sequence(value) or len(value) != len(sizes):
        return False
    for item in value:
        if not is_number(item):
            return False
    for digit, ratio in zip(value, ratios(sizes)):
        if digit >= ratio:
            return False
    return True


def check_digits(sizes, value):
    """Return any value as digits, a tuple; Refused(value) if it is none."""
    sizes = check_sizes(sizes)
    if not _is_digits(sizes, value):
        raise Refused(value)
    return tuple(value)


def number_of(sizes, row):
    """Return how many cells digits tell."""
    total = 0
    for digit, size in zip(check_digits(sizes, row), sizes):
        total += digit * size
    return total


def plus(sizes, row, level):
    """Return the digits of one unit of this level more, and the level whose digit rises."""
    found = list(check_digits(sizes, row))
    last = need_level(sizes, level)
    limits = ratios(sizes)
    while last < len(limits) and found[last] == limits[last] - 1:
        found[last] = 0
        last += 1
    found[last] += 1
    return tuple(found), last


def minus(sizes, row, level):
    """Return the digits of one unit of this level less, and the level whose digit falls."""
    found = list(check_digits(sizes, row))
    broken = need_level(sizes, level)
    limits = ratios(sizes)
    while broken < len(limits) and found[broken] == 0:
        found[broken] = limits[broken] - 1
        broken += 1
    if found[broken] == 0:
        raise NoRoom(sizes[level])
    found[broken] -= 1
    return tuple(found), broken


def is_request(sizes, value):
    """Tell whether any value is a request by sizes that have been looked at."""
    if not is_sequence(value) or len(value) != 2:
        return False
    deed, number = value
    if not is_number(number):
        return False
    return deed == "give" or (deed == "take" and number in sizes)


def check_request(sizes, value):
    """Return any value as a request, a tuple; Refused(value) if it is none."""
    sizes = check_sizes(sizes)
    if not is_request(sizes, value):
        raise Refused(value)
    return tuple(value)


def check_requests(sizes, value):
    """Return any value as a sequence of requests, of tuples; Refused(value) if it is none."""
    sizes = check_sizes(sizes)
    if not is_sequence(value):
        raise Refused(value)
    for item in value:
        if not is_request(sizes, item):
            raise Refused(value)
    return tuple([tuple(item) for item in value])


def sizes_octets(sizes):
    """Return the octets of sizes: how many there are, and each."""
    sizes = check_sizes(sizes)
    return row_octets((len(sizes), *sizes))


def pages_octets(pages):
    """Return the octets of pages: how many there are, and each."""
    pages = check_pages(pages)
    return row_octets((len(pages), *pages))


def _request_number(sizes, request):
    """Return the number that tells a request."""
    deed, number = request
    if deed == "take":
        return sizes.index(number)
    return len(sizes) + number


def _request_of(sizes, number):
    """Return the request that a number tells."""
    if number < len(sizes):
        return "take", sizes[number]
    return "give", number - len(sizes)


def request_octets(sizes, request):
    """Return the octets of a request."""
    return number_octets(_request_number(sizes, check_request(sizes, request)))


def write_requests(sizes, requests):
    """Return the octets of a sequence of requests, one behind another."""
    return row_octets([_request_number(sizes, request) for request in check_requests(sizes, requests)])


def _read_counted(octets, at, least, most, can_follow):
    """Return the row that is written behind how many items it has, and the place behind it."""
    many, behind = read_number(octets, at)
    if not least <= many <= most:
        raise Broken(at)
    row = []
    ahead = None
    for _ in range(many):
        place = behind
        item, behind = read_number(octets, place)
        if not can_follow(item, ahead):
            raise Broken(place)
        row.append(item)
        ahead = item
    return tuple(row), behind


def sizes_at(octets, at):
    """Return the sizes that are written at this place, and the place behind them."""
    row = check_octets(octets)
    return _read_counted(row, need_number(at), 1, MOST_SIZES, _can_be_size)


def pages_at(octets, at):
    """Return the pages that are written at this place, and the place behind them."""
    row = check_octets(octets)
    return _read_counted(row, need_number(at), 0, MOST_PAGES, _can_be_page)


def request_at(sizes, octets, at):
    """Return the request that is written at this place, and the place behind it."""
    sizes = check_sizes(sizes)
    row = check_octets(octets)
    number, behind = read_number(row, need_number(at))
    return _request_of(sizes, number), behind


def read_requests(sizes, octets):
    """Return the whole requests from the beginning on, and the place behind them."""
    sizes = check_sizes(sizes)
    row = check_octets(octets)
    requests = []
    behind = 0
    while place_behind(row, behind) is not None:
        number, behind = read_number(row, behind)
        requests.append(_request_of(sizes, number))
    return tuple(requests), behind
