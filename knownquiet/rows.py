"""Rows: parcels as bytes, and the seals by which a row shows that it is whole."""

from knownquiet.errors import BadRow, NoParcel, NoRow
from knownquiet.forms import is_below

PLAIN = (None, False, True)
FROM_ZERO = 3
BELOW_ZERO = 4
STRING = 5
TUPLE = 6
DEEPEST = 20
LONGEST = 20
BASE = 128
FIRST_SIGN = 32
LAST_SIGN = 126
BARRED_SIGN = 37
# The signs by their numbers: those below the barred one, and those above it.
LOW_SIGNS = " !\"#$"
HIGH_SIGNS = "&'()*+,-./0123456789:;<=>?@ABCDEFGHIJKLMNOPQRSTUVWXYZ[\\]^_`abcdefghijklmnopqrstuvwxyz{|}~"
FACTOR = 1000003
PRIME = 2 ** 61 - 1
SEALS = 2 ** 32


def is_parcel(thing):
    """Whether a thing is a parcel."""
    return is_parcel_within(DEEPEST, thing)


def is_parcel_within(deep, thing):
    """Whether a thing is a parcel in which tuples are nested at most so deep."""
    if thing is None or isinstance(thing, int):
        return True
    if isinstance(thing, str):
        return 0 < len(thing) <= LONGEST and all([is_sign_number(ord(sign)) for sign in thing])
    if not isinstance(thing, tuple) or deep == 0:
        return False
    return all([is_parcel_within(deep - 1, item) for item in thing])


def is_sign_number(number):
    """Whether a number is that of a sign that may stand in a string."""
    return FIRST_SIGN <= number <= LAST_SIGN and number != BARRED_SIGN


def is_row(thing):
    """Whether a thing is a tuple of bytes."""
    return isinstance(thing, tuple) and all([is_below(256, item) for item in thing])


def check_row(row):
    """Raise NoRow for what is no row."""
    if not is_row(row):
        raise NoRow()


def row_of(parcel):
    """Tell the row of a parcel."""
    if not is_parcel(parcel):
        raise NoParcel()
    return tuple(bytes_of(parcel))


def bytes_of(parcel):
    """Tell the list of the bytes of what is known to be a parcel."""
    if parcel is None or isinstance(parcel, bool):
        return [plain_sort(parcel)]
    if isinstance(parcel, int):
        return [FROM_ZERO] + whole_of(parcel) if parcel >= 0 else [BELOW_ZERO] + whole_of(-1 - parcel)
    if isinstance(parcel, str):
        return [STRING] + whole_of(len(parcel)) + [ord(sign) for sign in parcel]
    found = [TUPLE] + whole_of(len(parcel))
    for item in parcel:
        found.extend(bytes_of(item))
    return found


def plain_sort(parcel):
    """Tell the sort of None or a flag."""
    if parcel is None:
        return 0
    return 2 if parcel else 1


def whole_of(number):
    """Tell the list of the bytes of a number: its figures, the lowest first, all but the last marked."""
    found = []
    left = number
    while left >= BASE:
        found.append(BASE + left % BASE)
        left //= BASE
    return found + [left]


def parcel_of(row):
    """Tell the parcel of which this is the row."""
    check_row(row)
    return read_row(row)


def read_row(row):
    """Tell the parcel of which this, known to be a row, is the row."""
    parcel, behind = read_parcel(row, 0, DEEPEST)
    if behind < len(row):
        raise BadRow(behind)
    return parcel


def read_parcel(row, place, deep):
    """Tell the pair of the parcel at a place, nested at most so deep, and the place behind it."""
    if place == len(row):
        raise BadRow(place)
    sort = row[place]
    if sort < len(PLAIN):
        return (PLAIN[sort], place + 1)
    if sort > TUPLE or (sort == TUPLE and deep == 0):
        raise BadRow(place)
    whole, behind = read_whole(row, place + 1)
    if sort == FROM_ZERO:
        return (whole, behind)
    if sort == BELOW_ZERO:
        return (-1 - whole, behind)
    if sort == TUPLE:
        return read_items(row, behind, whole, deep - 1)
    if whole == 0 or whole > LONGEST:
        raise BadRow(place + 1)
    return read_signs(row, behind, whole)


def read_whole(row, place):
    """Tell the pair of the number whose figures begin at a place, and the place behind them."""
    last = place
    while last < len(row) and row[last] >= BASE:
        last += 1
    if last == len(row) or (row[last] == 0 and last > place):
        raise BadRow(place)
    whole = 0
    for figure in row[place:last + 1][::-1]:
        whole = whole * BASE + figure % BASE
    return (whole, last + 1)


def read_signs(row, place, many):
    """Tell the pair of the string of so many signs at a place, and the place behind it."""
    signs = []
    for at in range(place, place + many):
        if at == len(row) or not is_sign_number(row[at]):
            raise BadRow(at)
        signs.append(sign_of(row[at]))
    return ("".join(signs), place + many)


def sign_of(number):
    """Tell the sign that has this number."""
    if number < BARRED_SIGN:
        return LOW_SIGNS[number - FIRST_SIGN]
    return HIGH_SIGNS[number - BARRED_SIGN - 1]


def read_items(row, place, many, deep):
    """Tell the pair of the tuple of so many parcels that begin at a place, and the place behind it."""
    items = []
    behind = place
    # How many are told may be far more than the row has bytes: so they are counted as they come.
    while len(items) < many:
        item, behind = read_parcel(row, behind, deep)
        items.append(item)
    return (tuple(items), behind)


def mark(row):
    """Tell the mark of a row, by which it is sealed."""
    check_row(row)
    return mark_of(row)


def mark_of(row):
    """Tell the mark of what is known to be a row."""
    number = 1
    for byte in row:
        number = (FACTOR * number + byte + 1) % PRIME
    return number


def sealed(parcel):
    """Tell the row of a parcel, and its seal behind it."""
    row = row_of(parcel)
    return row + seal_of(row)


def seal_of(row):
    """Tell the four bytes that seal a row, the lowest first."""
    number = mark_of(row) % SEALS
    return tuple([number // 256 ** at % 256 for at in range(4)])


def unsealed(row):
    """Tell the parcel, alone in a tuple, of which a row is sealed, or () if it is sealed of none."""
    if not is_row(row) or len(row) < 4 or seal_of(row[:-4]) != row[-4:]:
        return ()
    try:
        return (read_row(row[:-4]),)
    except BadRow:
        return ()
