"""Values that many tests pass: any value, as the document means it."""

from whatmovesbuy.errors import NoUnit, OwnError


def nested(depth):
    """A list in a list, so many deep."""
    value = []
    for _ in range(depth):
        value = [value]
    return value


NO_NUMBERS = (None, True, False, -1, -(10 ** 31), "", "1", "take", (), [], (0,), [1], {}, 1.0, OwnError(), NoUnit(1))
NO_SEQUENCES = (None, True, False, 0, 1, -1, "", "12", OwnError(), {}, b"\x01")
ANY = NO_NUMBERS + (0, 1, 10 ** 31, "give", ("take", 1), ["give", 0], (None, (True, [])), nested(49), OwnError)


def caught(error, call, *rest, **more):
    """The error that a call raises; it must be of just this class."""
    try:
        result = call(*rest, **more)
    except (ValueError, KeyError) as told:
        if type(told) is error:
            return told
        raise AssertionError(f"{error.__name__} expected, not {type(told).__name__}") from told
    raise AssertionError(f"{error.__name__} expected, not {result!r}")


def same(one, other):
    """Whether two values are equal with their kinds: no bool is an integer, no list a tuple."""
    if type(one) is not type(other):
        return False
    if isinstance(one, (list, tuple)):
        return len(one) == len(other) and all(same(a, b) for a, b in zip(one, other))
    return one == other
