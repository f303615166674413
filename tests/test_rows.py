"""Rows: points 9.1 and 9.2."""

import random
import unittest

from knownquiet.errors import BadRow, NoParcel, NoRow
from knownquiet.rows import is_parcel, mark, parcel_of, row_of, sealed, unsealed
from tests.odd import nested, odd_things

SIGNS = [chr(number) for number in range(32, 127) if number != 37]
FIGURE = 10 ** 19
# Parcels and their rows, written out.
PLAIN_ROWS = [
    (None, (0,)), (False, (1,)), (True, (2,)), (0, (3, 0)), (1, (3, 1)), (127, (3, 127)), (128, (3, 128, 1)),
    (129, (3, 129, 1)), (255, (3, 255, 1)), (256, (3, 128, 2)), (300, (3, 172, 2)), (16383, (3, 255, 127)),
    (16384, (3, 128, 128, 1)), (-1, (4, 0)), (-2, (4, 1)), (-128, (4, 127)), (-129, (4, 128, 1)), (-301, (4, 172, 2)),
    ("a", (5, 1, 97)), (" ", (5, 1, 32)), ("~", (5, 1, 126)), ("$", (5, 1, 36)), ("&", (5, 1, 38)),
    ("\"", (5, 1, 34)), ("\\", (5, 1, 92)), ("a" * 20, (5, 20) + (97,) * 20), ("0", (5, 1, 48)),
    ((), (6, 0)), ((None,), (6, 1, 0)), ((0, -1), (6, 2, 3, 0, 4, 0)), (((),), (6, 1, 6, 0)),
    ((False,) * 130, (6, 130, 1) + (1,) * 130), ((True, "a", 300), (6, 3, 2, 5, 1, 97, 3, 172, 2)),
]
NO_PARCELS = [
    "", "a" * 21, "%", "100%", "a\nb", "\n", "\t", "\x7f", "\x1f", "\xe4", [], {}, [None], {1: 2}, b"a", range(3),
    ([],), (None, {}), ("",), ((), ("a", ("%",))), nested(20, (), lambda inner: (inner,)),
    nested(21, None, lambda inner: (inner,)), (0, nested(20, 1, lambda inner: (1, inner))), (None, b""),
]
NO_ROWS = [
    None, 0, "", "ab", b"", b"\x00", bytearray(b"\x00"), [], [0], {}, {0: 1}, range(3), (256,), (-1,), (0, 256), (True,),
    (0, False), (None,), ("0",), ((0,),), (b"\x00",), (0, (0,)), nested(40, 0, lambda inner: (inner,)),
]
BAD_ROWS = [
    # What lacks: the row's length.
    ((), 0), ((3,), 1), ((4,), 1), ((5,), 1), ((6,), 1), ((5, 1), 2), ((5, 3, 97, 97), 4), ((6, 1), 2), ((6, 2, 0), 3),
    ((6, 1, 6, 1, 6, 1), 6), ((6, 2, 6, 0), 4), ((6, 255, 255, 255, 127), 5), ((6, 2, 5, 2, 97), 5),
    # A byte of no sort.
    ((7,), 0), ((255,), 0), ((97,), 0), ((6, 1, 7), 2), ((6, 2, 0, 9, 0), 3), ((6, 3, 2, 200, 1), 3),
    # Too deep: the byte of the sort.
    ((6, 1) * 20 + (6, 0), 40), ((6, 1) * 20 + (6,), 40), ((6, 2) * 20 + (6, 2), 40),
    # A whole that the row ends amid, or with a needless 0: its first byte.
    ((3, 128), 1), ((3, 255, 255, 255), 1), ((4, 200, 128), 1), ((5, 130), 1), ((6, 128), 1), ((6, 1, 3, 128, 128), 3),
    ((3, 128, 0), 1), ((3, 255, 255, 0), 1), ((4, 129, 0), 1), ((5, 129, 0, 97), 1), ((6, 128, 0), 1),
    ((6, 2, 0, 4, 128, 0), 4), ((3, 128, 0, 7), 1),
    # A string of no sign or of more than 20: the whole's first byte, whatever comes behind.
    ((5, 0), 1), ((5, 0, 97), 1), ((5, 21) + (97,) * 21, 1), ((5, 21), 1), ((5, 255, 1), 1), ((6, 1, 5, 0), 3),
    ((5, 148, 1) + (97,) * 148, 1),
    # A byte that is no sign.
    ((5, 1, 37), 2), ((5, 1, 31), 2), ((5, 1, 127), 2), ((5, 1, 10), 2), ((5, 3, 97, 37, 97), 3), ((5, 2, 97, 255), 3),
    ((5, 3, 97, 37), 3), ((5, 2, 10, 10), 2), ((6, 1, 5, 2, 97, 0), 5),
    # What is behind the parcel.
    ((0, 0), 1), ((1, 7), 1), ((3, 5, 0), 2), ((3, 128, 1, 0), 3), ((5, 1, 97, 97), 3), ((6, 0, 0), 2),
    ((6, 1, 0, 255), 3), ((3, 0, 0), 2),
    # Which is the first.
    ((6, 3, 7, 7, 7), 2), ((6, 1, 5, 1, 37, 7), 4), ((6, 2, 3, 128), 3), ((6, 2, 5, 21, 7), 3), ((0, 128, 7), 1),
]


def odd_parcels():
    """Objects that are no parcels."""
    return NO_PARCELS + [
        thing for thing in odd_things()
        if not (thing is None or isinstance(thing, bool) or isinstance(thing, int))
        and not (isinstance(thing, str) and 0 < len(thing) < 21 and "\n" not in thing)
        and not is_plain(thing)
    ]


def is_plain(thing):
    """Whether a thing is a tuple in which plain parcels stand alone."""
    if not isinstance(thing, tuple):
        return thing is None or isinstance(thing, int) or thing in ("0", "a", "b", "ab")
    return all(is_plain(item) for item in thing[:300]) and repr(thing).count("(") < 20


def some_parcel(chance, deep):
    sort = chance.randrange(7 if deep else 6)
    if sort < 3:
        return (None, False, True)[sort]
    if sort == 3:
        return chance.randint(-200, 200)
    if sort == 4:
        return chance.choice([-1, 1]) * chance.randint(0, 10 ** chance.randint(1, 19))
    if sort == 5:
        return "".join(chance.choice(SIGNS) for _ in range(chance.randint(1, 20)))
    return tuple(some_parcel(chance, deep - 1) for _ in range(chance.randint(0, 4)))


def plain_mark(row):
    number = 1
    for byte in row:
        number = (1000003 * number + byte + 1) % (2 ** 61 - 1)
    return number


def with_seal(row):
    number = plain_mark(row) % 2 ** 32
    return row + (number % 256, number // 256 % 256, number // 65536 % 256, number // 16777216)


class RowsTest(unittest.TestCase):
    def test_rows_written_out(self):
        for parcel, row in PLAIN_ROWS:
            self.assertEqual(row_of(parcel), row)
            found = parcel_of(row)
            self.assertEqual((found, repr(found)), (parcel, repr(parcel)))
            self.assertIs(is_parcel(parcel), True)

    def test_integers_by_figures(self):
        for number in [9 * FIGURE + 7, 99999999999999999999, -99999999999999999999, -FIGURE, 2 ** 70, 128 ** 9]:
            whole = number if number >= 0 else -1 - number
            row = row_of(number)
            self.assertEqual(row[0], 3 if number >= 0 else 4)
            self.assertEqual(sum((byte % 128) * 128 ** at for at, byte in enumerate(row[1:])), whole)
            self.assertTrue(all(byte >= 128 for byte in row[1:-1]) and 0 < row[-1] < 128)
            self.assertEqual(parcel_of(row), number)

    def test_each_sign(self):
        for sign in SIGNS:
            self.assertEqual(row_of(sign), (5, 1, ord(sign)))
            self.assertEqual(parcel_of((5, 1, ord(sign))), sign)
        for number in range(256):
            if chr(number) not in SIGNS:
                self.assertEqual(self.bad_place((5, 1, number)), 2)

    def test_depth(self):
        deepest = nested(19, (), lambda inner: (inner,))
        self.assertIs(is_parcel(deepest), True)
        self.assertEqual(parcel_of(row_of(deepest)), deepest)
        self.assertEqual(row_of(deepest), (6, 1) * 19 + (6, 0))
        self.assertIs(is_parcel((deepest,)), False)
        self.assertIs(is_parcel(nested(20, 5, lambda inner: (inner,))), True)
        for parcel in (None, True, 7, -300, "ab"):
            deepest = nested(20, parcel, lambda inner: (inner,))
            self.assertEqual(parcel_of((6, 1) * 20 + row_of(parcel)), deepest)
            self.assertEqual(row_of(deepest), (6, 1) * 20 + row_of(parcel))

    def test_what_is_no_parcel(self):
        for thing in odd_parcels():
            self.assertIs(is_parcel(thing), False, repr(thing)[:60])
            for function in (row_of, sealed):
                with self.assertRaises(NoParcel):
                    function(thing)

    def test_many_parcels(self):
        chance = random.Random(2)
        for _ in range(400):
            parcel = some_parcel(chance, 4)
            row = row_of(parcel)
            self.assertIsInstance(row, tuple)
            self.assertEqual(repr(parcel_of(row)), repr(parcel))
            # No true beginning is a row, and nothing may stand behind one.
            for many in range(len(row)):
                self.assertGreaterEqual(self.bad_place(row[:many]), 0)
            self.assertEqual(self.bad_place(row + (chance.randrange(256),)), len(row))

    def test_what_is_read_has_this_row(self):
        chance = random.Random(3)
        read = 0
        for _ in range(6000):
            row = tuple(chance.choice([0, 1, 2, 3, 4, 5, 6, 97, 128, 200]) for _ in range(chance.randint(1, 7)))
            try:
                parcel = parcel_of(row)
            except BadRow as error:
                self.assertTrue(0 <= error.place <= len(row))
                continue
            read += 1
            self.assertEqual(row_of(parcel), row)
        self.assertGreater(read, 200)

    def bad_place(self, row):
        with self.assertRaises(BadRow) as caught:
            parcel_of(row)
        self.assertEqual(vars(caught.exception), {"place": caught.exception.place})
        return caught.exception.place

    def test_bad_rows(self):
        for row, place in BAD_ROWS:
            self.assertEqual(self.bad_place(row), place, row)

    def test_what_is_no_row(self):
        for thing in NO_ROWS + [thing for thing in odd_things() if thing != (0, 1, 2, 3)]:
            for function in (parcel_of, mark):
                with self.assertRaises(NoRow, msg=repr(thing)[:60]):
                    function(thing)
            self.assertEqual(unsealed(thing), ())

    def test_long_rows(self):
        self.assertEqual(parcel_of((6, 128, 156, 1) + (0,) * 19968), (None,) * 19968)
        self.assertEqual(self.bad_place((6, 129, 156, 1) + (0,) * 19968), 19972)
        self.assertEqual(self.bad_place((3,) + (255,) * 19999), 1)
        self.assertEqual(parcel_of((3,) + (128,) * 2000 + (1,)), 128 ** 2000)
        self.assertEqual(row_of(-1 - 128 ** 2000), (4,) + (128,) * 2000 + (1,))
        self.assertEqual(self.bad_place((6, 1) * 9999 + (0,)), 40)
        parcel = ("x" * 20,) * 900
        self.assertEqual(unsealed(sealed(parcel)), (parcel,))

    def test_marks(self):
        self.assertEqual(mark(()), 1)
        self.assertEqual(mark((0,)), 1000004)
        self.assertEqual(mark((255,)), 1000259)
        self.assertEqual(mark((0, 0)), 1000004 * 1000003 + 1)
        self.assertEqual(mark((1, 2, 3, 4)), plain_mark((1, 2, 3, 4)))
        self.assertEqual(mark((9, 8, 7) * 500), plain_mark((9, 8, 7) * 500))
        self.assertNotEqual(mark((0, 1)), mark((1, 0)))
        self.assertLess(mark(tuple(range(256)) * 3), 2 ** 61 - 1)

    def test_seals(self):
        self.assertEqual(sealed(None), (0, 68, 66, 15, 0))
        self.assertEqual(unsealed((0, 68, 66, 15, 0)), (None,))
        for parcel, row in PLAIN_ROWS:
            self.assertEqual(sealed(parcel), with_seal(row))
            self.assertEqual(repr(unsealed(with_seal(row))), repr((parcel,)))

    def test_each_byte_otherwise(self):
        for parcel in (None, (True, "a", 300), ("letter", 0, 1, 0, ((0, ("answer",)),))):
            row = sealed(parcel)
            for at in range(len(row)):
                for byte in (0, 1, 37, 255, row[at] ^ 1, row[at] ^ 128):
                    spoilt = row[:at] + (byte,) + row[at + 1:]
                    self.assertEqual(unsealed(spoilt), (parcel,) if spoilt == row else ())
            for many in range(len(row)):
                self.assertEqual(unsealed(row[:many]), ())
            self.assertEqual(unsealed(row + (0,)), ())
            self.assertEqual(unsealed(list(row)), ())

    def test_seals_of_no_parcels_row(self):
        for row in [(), (7,), (0, 0), (3, 128, 0), (5, 1, 37), (6, 1), (6, 1) * 20 + (6, 0)]:
            self.assertEqual(unsealed(with_seal(row)), ())


if __name__ == "__main__":
    unittest.main()
