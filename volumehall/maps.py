"""What a sheet can be, and where one can't be."""

from volumehall.plain import is_number

MOST_NAME = 9
MOST_COPIES = 3
MOST_LENGTH = 36
MOST_SHEET = 10 ** 6


def is_tuple_of(thing, count):
    """Whether the thing is a tuple of so many parts."""
    return isinstance(thing, tuple) and len(thing) == count


def are_rising(things, least, most):
    """Whether all things are numbers from least to most, each above the one ahead."""
    for thing in things:
        if not is_number(thing, least, most):
            return False
        least = thing + 1
    return True


def is_whole(sizes, sheet):
    """Whether a sheet can be, its rows aside."""
    if not is_tuple_of(sheet, 3):
        return False
    number, volumes, leaving = sheet
    if not is_number(number, 0, MOST_SHEET) or not isinstance(volumes, tuple):
        return False
    return isinstance(leaving, tuple) and are_rising(leaving, 0, len(sizes) - 1)


def is_row(row, ahead):
    """Whether a row can be, its pieces aside; ahead is the name of the row ahead."""
    if not is_tuple_of(row, 3):
        return False
    name, copies, pieces = row
    if not is_number(name, ahead + 1, MOST_NAME) or not is_number(copies, 1, MOST_COPIES):
        return False
    return isinstance(pieces, tuple) and len(pieces) <= MOST_LENGTH


def is_place(sizes, place):
    """Whether the place is a piece of a disk that is there."""
    if not is_tuple_of(place, 2):
        return False
    disk, piece = place
    if not is_number(disk, 0, len(sizes) - 1) or sizes[disk] is None:
        return False
    return is_number(piece, 0, sizes[disk] - 1)


def is_piece(sizes, places, copies, taken):
    """Whether a piece can lie in these places, some others being taken."""
    if not isinstance(places, tuple) or len(places) > copies:
        return False
    for place in places:
        if not is_place(sizes, place) or place in taken:
            return False
    return len({place[0] for place in places}) == len(places)


def judge(sizes, sheet):
    """The (row, piece) of the first that can't be, -1 where it is more than one piece; None, if all can be."""
    if not is_whole(sizes, sheet):
        return (-1, -1)
    ahead = -1
    taken = {}
    for at, row in enumerate(sheet[1]):
        if not is_row(row, ahead):
            return (at, -1)
        ahead, copies, pieces = row
        for piece, places in enumerate(pieces):
            if not is_piece(sizes, places, copies, taken):
                return (at, piece)
            for place in places:
                taken[place] = True
    return None
