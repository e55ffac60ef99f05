"""Parcels, the rows of bytes by which they are told, and the marks and seals of rows."""
from moststream.errors import BadRow, NoParcel, NoRow
from moststream.kinds import is_number_below

NONE = 0
NO = 1
YES = 2
FROM_ZERO = 3
BELOW_ZERO = 4
STRING = 5
TUPLE = 6
MOST_SIGNS = 20
MOST_DEEP = 20
BYTE_LIMIT = 256
FIGURE_LIMIT = 128
MARK_LIMIT = 2305843009213693951
SEAL_LENGTH = 4
LEAST_SIGN = 32
GREATEST_SIGN = 126
NO_SIGN = 37
# All signs by their numbers from LEAST_SIGN on; a second blank stands in the place of NO_SIGN, which is none.
SIGNS = " !\"#$ &'()*+,-./0123456789:;<=>?@ABCDEFGHIJKLMNOPQRSTUVWXYZ[\\]^_`abcdefghijklmnopqrstuvwxyz{|}~"


def is_byte(thing):
    return is_number_below(BYTE_LIMIT, thing)


def is_row(thing):
    """Whether a thing is a tuple of bytes."""
    return isinstance(thing, tuple) and all([is_byte(item) for item in thing])


def check_row(row):
    """NoRow for what is no row."""
    if not is_row(row):
        raise NoRow()


def _is_sign(number):
    return LEAST_SIGN <= number <= GREATEST_SIGN and number != NO_SIGN


def is_parcel(thing):
    """Whether a thing is a parcel."""
    return _is_parcel_within(MOST_DEEP, thing)


def _is_parcel_within(deep, thing):
    """Whether a thing is a parcel whose tuples are nested at most so deep."""
    if isinstance(thing, tuple):
        return deep > 0 and all([_is_parcel_within(deep - 1, item) for item in thing])
    if isinstance(thing, str):
        return 0 < len(thing) <= MOST_SIGNS and all([_is_sign(ord(sign)) for sign in thing])
    return thing is None or isinstance(thing, int)


def row_of(parcel):
    """The row of a parcel."""
    if not is_parcel(parcel):
        raise NoParcel()
    return tuple(_told(parcel))


def _told(parcel):
    """The list of the bytes of what is known to be a parcel."""
    if parcel is None:
        return [NONE]
    if isinstance(parcel, bool):
        return [YES if parcel else NO]
    if isinstance(parcel, int):
        return [FROM_ZERO] + _whole(parcel) if parcel >= 0 else [BELOW_ZERO] + _whole(-1 - parcel)
    if isinstance(parcel, str):
        return [STRING] + _whole(len(parcel)) + [ord(sign) for sign in parcel]
    told = [TUPLE] + _whole(len(parcel))
    for item in parcel:
        told.extend(_told(item))
    return told


def _whole(number):
    """The list of the bytes of a number: its figures to the base FIGURE_LIMIT, the lowest one first."""
    left = number
    told = []
    while left >= FIGURE_LIMIT:
        told.append(left % FIGURE_LIMIT + FIGURE_LIMIT)
        left = left // FIGURE_LIMIT
    told.append(left)
    return told


def parcel_of(row):
    """The parcel of which this is the row."""
    check_row(row)
    parcel, behind = _parcel_at(row, 0, MOST_DEEP)
    if behind < len(row):
        raise BadRow(behind)
    return parcel


def _check_there(row, place):
    """BadRow where the row is at its end, and something lacks."""
    if place >= len(row):
        raise BadRow(len(row))


def _parcel_at(row, place, deep):
    """The pair of the parcel at a place, its tuples nested at most so deep, and the place behind it."""
    _check_there(row, place)
    sort = row[place]
    if sort > TUPLE or (sort == TUPLE and deep == 0):
        raise BadRow(place)
    if sort == NONE:
        return (None, place + 1)
    if sort in (NO, YES):
        return (sort == YES, place + 1)
    number, behind = _whole_at(row, place + 1)
    if sort == STRING:
        if number == 0 or number > MOST_SIGNS:
            raise BadRow(place + 1)
        return _string_at(row, behind, number)
    if sort == TUPLE:
        return _tuple_at(row, behind, number, deep)
    return (number if sort == FROM_ZERO else -1 - number, behind)


def _whole_at(row, place):
    """The pair of the number whose whole stands at a place, and the place behind it."""
    last = place
    while last < len(row) and row[last] >= FIGURE_LIMIT:
        last += 1
    # Where the row is at its end already, this place is its length.
    if last == len(row) or (row[last] == 0 and last > place):
        raise BadRow(place)
    number = 0
    for byte in row[place:last + 1][::-1]:
        number = number * FIGURE_LIMIT + byte % FIGURE_LIMIT
    return (number, last + 1)


def _string_at(row, place, many):
    """The pair of the string of so many signs at a place, and the place behind it."""
    signs = []
    for at in range(place, place + many):
        _check_there(row, at)
        if not _is_sign(row[at]):
            raise BadRow(at)
        signs.append(SIGNS[row[at] - LEAST_SIGN])
    return ("".join(signs), place + many)


def _tuple_at(row, place, many, deep):
    """The pair of the tuple of so many items at a place, and the place behind it."""
    items = []
    behind = place
    # Not by a range: a row may tell more items than can be counted, and then it ends ahead of them.
    while len(items) < many:
        item, behind = _parcel_at(row, behind, deep - 1)
        items.append(item)
    return (tuple(items), behind)


def mark(row):
    """The mark of a row."""
    check_row(row)
    return _mark_of(row)


def _mark_of(row):
    found = 1
    for byte in row:
        found = (found * 1000003 + byte + 1) % MARK_LIMIT
    return found


def _seal(row):
    """The row of the lowest bytes of a row's mark, the lowest one first."""
    left = _mark_of(row)
    seal = []
    for _ in range(SEAL_LENGTH):
        seal.append(left % BYTE_LIMIT)
        left = left // BYTE_LIMIT
    return tuple(seal)


def sealed(parcel):
    """The row of a parcel, and its seal."""
    row = row_of(parcel)
    return row + _seal(row)


def unsealed(row):
    """The tuple of the parcel of which a row is sealed, of none for anything else."""
    if not is_row(row) or _seal(row[:-SEAL_LENGTH]) != row[-SEAL_LENGTH:]:
        return ()
    try:
        return (parcel_of(row[:-SEAL_LENGTH]),)
    except BadRow:
        return ()
