"""Numbers as octets, and the kinds of plain values that all modules ask for."""

from whatmovesbuy.errors import BadOctets, Broken, Refused


def is_int(value):
    """Tell whether any value is an integer; a bool is none."""
    return isinstance(value, int) and not isinstance(value, bool)


def is_number(value):
    """Tell whether any value is an integer from 0 on."""
    return is_int(value) and value >= 0


def is_sequence(value):
    """Tell whether any value is a list or a tuple."""
    return isinstance(value, (list, tuple))


def need_number(value):
    """Return any value that is a number; Refused(value) if it is none."""
    if not is_number(value):
        raise Refused(value)
    return value


def in_tuples(value):
    """Return any value with tuples instead of lists, also within."""
    if not is_sequence(value):
        return value
    # Most items are numbers: asking here saves a call for each.
    return tuple([in_tuples(item) if is_sequence(item) else item for item in value])


def check_octets(value):
    """Return any value as octets, a tuple; BadOctets(at) if it is none."""
    if not is_sequence(value):
        raise BadOctets(-1)
    for at, item in enumerate(value):
        if not is_number(item) or item > 255:
            raise BadOctets(at)
    return tuple(value)


def number_octets(number):
    """Return the octets of a number: seven bits each, the greatest first."""
    rest = need_number(number)
    octets = [rest % 128]
    while rest >= 128:
        rest = rest // 128
        octets.append(128 + rest % 128)
    return tuple(octets[::-1])


def row_octets(row):
    """Return the octets of some numbers, one behind another."""
    octets = []
    for number in row:
        octets.extend(number_octets(number))
    return tuple(octets)


def place_behind(octets, at):
    """Return the place behind the number that begins here, None if the octets end within it.

    The octets have been looked at. Broken(at) if no number can begin so.
    """
    # A first group of no bits would give a number a second writing.
    if at < len(octets) and octets[at] == 128:
        raise Broken(at)
    for place in range(at, len(octets)):
        if octets[place] < 128:
            return place + 1
    return None


def read_number(octets, at):
    """Return what number_at does, for octets and a place that have been looked at."""
    behind = place_behind(octets, at)
    if behind is None:
        raise Broken(len(octets))
    number = 0
    for octet in octets[at:behind]:
        number = number * 128 + octet % 128
    return number, behind


def number_at(octets, at):
    """Return the number whose octets begin at this place, and the place behind them."""
    row = check_octets(octets)
    return read_number(row, need_number(at))
